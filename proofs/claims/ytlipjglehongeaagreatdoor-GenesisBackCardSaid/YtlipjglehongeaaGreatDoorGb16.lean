/-
  A DIGEST AMONG OTHER MEMORY
  PACKAGE state
  EQUALITY of digests, beside what layer 8 has
-/
import Derived.Test.YtlipjglehongeaaGreatDoorGb15
import Derived.Test.YtlipjglehongeaaGreatDoorGb1
import Derived.Test.YtlipjglehongeaaGreatDoorGb14
import Derived.Test.YtlipjglehongeaaGreatDoorGb11
import Derived.Lib.SlBytesConst
import Derived.Test.YtlipjglehongeaaGreatDoorGb6
import Derived.Laws.StructEq
open Go.Lib (hid)
set_option maxRecDepth 100000
namespace Go.Proofs.YtlipjglehongeaaGreatDoor
open Go.RowKit Sh
theorem Sl.of_sr {w:World} {p:Option Addr} {xs:List Nat} (h:Sr w p xs) (g:Nat) (hg:w.heap.size≤g):Sl w w.heap.size g p xs:=λhx=>by
 obtain⟨b,o,e,h1,h2⟩:=h hx;exact⟨b,o,e,h1,by omega,h2⟩
theorem Sl.old {w W:World} {p:Option Addr} {xs:List Nat} {g:Nat} (h:Sr w p xs) (hb:Below w.heap.size w W) (hg:w.heap.size≤g):Sl W W.heap.size g p xs:=λhx=>by
 obtain⟨b,o,e,h1,h2⟩:=h hx;exact⟨b,o,e,Nat.lt_of_lt_of_le h1 hb.size,by omega,h2.below hb h1⟩
theorem Wrote.dig {w w':World} {g:Nat} {l:List Nat} (h:Wrote w w' g l):∃ s r,Dig w' g l s r:=by
 obtain⟨⟨s,r,hr,hb⟩,_⟩:=h;exact⟨s,r,Dig.of_rep hr hb⟩
theorem write_u (B g:Nat) (s:S8) (r l xs:List Nat) (p:Option Addr) (n c:Nat) (w:World) (hd:Dig w g l s r) (hxs:Bytes xs) (hp:Sl w w.heap.size g p xs) (hn:xs.length=n) (hc:n≤c) (hsz:l.length+n<2305843009213693952) (hk:KAt w) (hB:B≤g) (hkB:1<B):
  Calls Tryz.prog 101 #[.pointer (some ⟨g,0,none⟩),.slice p n c] w λe w'=>e= .returned (.tuple #[])∧(∃ s r,Dig w' g (l++xs) s r)∧But w.heap.size g w w'∧Below B w w':=by
 subst hn;refine(write_t g s r l xs p c w hd hxs hp hc hsz hk (by omega)).mono ?_
 rintro e w' ⟨rfl,h⟩
 have h2:=h.2;exact⟨rfl,h.dig,h2,h2.below hB (by have:=hd.blk.lt;omega)⟩
end Go.Proofs.YtlipjglehongeaaGreatDoor
namespace Go.Proofs.YtlipjglehongeaaGreatDoor
open Go Go.RowKit Sh
def stM:List Nat:=[83,84,65,84]
def zH:List Nat:=List.replicate 32 0
theorem stM_bytes:Bytes stM:=λi=>by
 rcases Nat.lt_or_ge i 4 with h |h
 ·rcases(show i=0∨i=1∨i=2∨i=3 by omega) with rfl |rfl |rfl |rfl<;>decide
 ·have:gt stM i=0:=by unfold gt;rw[List.getD_eq_getElem?_getD,List.getElem?_eq_none (by exact h)];rfl
  rw[this];decide
theorem Sl.ne {w:World} {p:Option Addr} {xs:List Nat} {g:Nat} (h:Sr w p xs) (hg:∀ a:Addr,p=some a→a.block≠g):Sl w w.heap.size g p xs:=λhx=>by
 obtain⟨b,o,e,h1,h2⟩:=h hx;exact⟨b,o,e,h1,hg _ e,h2⟩
theorem hash_size (l:List Nat) (h:l.length=32):(Tryz.prog.info? 36).map (·.size)=some (u8s l).length:=by
 rw[u8s_length,h]
 kernel_rfl
theorem u8s_oneD (xs:List Nat):(u8s xs).toArray.all (·.oneCell')=true:=all_oneCell_toArray (λv hv=>by
 unfold u8s at hv;obtain⟨x,_,rfl⟩:=List.mem_map.1 hv;rfl)
set_option maxHeartbeats 1000000 in
theorem OfB_t (xs:List Nat) (p:Option Addr) (n c:Nat) (w:World) (hx:xs.length=n) (hc:n≤c) (hp:Sr w p xs) (hb:Bytes xs) (hn:n≤1000000) (hk:KAt w):
  Calls Tryz.prog 119 #[.slice p n c] w λe w'=>e= .returned (.agg (u8s (sum (stM++xs))).toArray)∧Below w.heap.size w w':=by
 have HX:=hid hx;have HC:=hid hc;have HP:=hid hp;have HB:=hid hb;have HN:=hid hn;have HK:=hid hk;have HG:=hid hk.lt;have BZ:=hid ((Below.refl w.heap.size w).alloc (Nat.le_refl _) (.cells (u8s zH).toArray 36));have RZ:=hid (Blk.new w 36 (u8s zH));clear hx hc hp hb hn hk
 go_enter Tryz.func119,Tryz.ntmps119
 go_wp2_with fail
 refine(new_t _).mono ?_
 rintro e w1 ⟨rfl,hw⟩
 have k:Blk w1 w.heap.size 36 (u8s zH)∧Dig w1 (w.heap.size+1) [] z0 (List.replicate 64 0)∧Below w.heap.size w w1∧w1.heap.size=w.heap.size+2:=by
  rw[hw];exact⟨(Blk.new w 36 (u8s zH)).alloc _,Dig.zero (Blk.new2 w _ 175 DZ),((Below.refl _ _).alloc (Nat.le_refl _) _).alloc (by simp) _,by simp⟩
 obtain⟨k0,k1,bw,hz⟩:=k;clear hw;have K0:=hid k0;have K1:=hid k1;have BW:=hid bw;have S4:=hid (sr_frz stM w1 [] 5 (4,5));have BA:=hid (show Below w1.heap.size w1 (w1.alloc (.cells (u8s stM).toArray 5 (4,5))) from(Below.refl _ _).alloc (Nat.le_refl _) _);have HZ:=hid hz;clear k0 k1 bw RZ BZ hz;rw[List.append_nil] at S4;have kc:=λ(w:World) (C:Array Value) (n c:Nat)=>Lib.run_convert_bytes_const (P:=Tryz.prog) w 23 5 C n c Tryz.underlying23 Tryz.underlying5
 go_wp2_with fail
 clear kc;have hz:=HZ.out;have B2:=hid (BW.out.trans (BA.out.mono BW.out.size));have K1a:=hid (K1.out.below BA.out K1.out.blk.lt);have K0a:=hid (K0.out.below BA.out K0.out.lt);refine(write_u w.heap.size (w.heap.size+1) _ _ [] stM (some ⟨w1.heap.size,0,none⟩) 4 4 _ K1a.out stM_bytes (Sl.ne S4.out (λa ha=>by cases ha;show w1.heap.size≠w.heap.size+1;omega)) rfl (Nat.le_refl _) (by simp) (HK.out.below B2.out HG.out) (by omega) HG.out).mono ?_
 rintro e w3 ⟨rfl,⟨s3,r3,d3⟩,t3,b3⟩
 rw[List.nil_append] at d3;have D3:=hid d3;have B3:=hid (B2.out.trans b3);have K3:=hid (K0a.out.but t3 K0a.out.lt (by omega));clear d3 t3 b3 K0 K1 BW BA S4 K1a K0a B2 hz HZ;go_wp2_with fail
 refine(write_u w.heap.size (w.heap.size+1) s3 r3 stM xs p n c w3 D3.out HB.out (Sl.old HP.out B3.out (by omega)) HX.out HC.out (by have:=HN.out;show 4+n<_;omega) (HK.out.below B3.out HG.out) (by omega) HG.out).mono ?_
 rintro e w4 ⟨rfl,⟨s4,r4,d4⟩,t4,b4⟩
 have D4:=hid d4;have B4:=hid (B3.out.trans b4);have K4:=hid (K3.out.but t4 K3.out.lt (by omega));clear d4 t4 b4 D3 B3 K3;go_wp2_with fail
 refine(dsum_t (w.heap.size+1) s4 r4 _ w4 D4.out (by rw[List.length_append,HX.out];have:=HN.out;show 4+n<_;omega) (HK.out.below B4.out HG.out)).mono ?_
 rintro e w5 ⟨rfl,b5⟩
 have B5:=hid (B4.out.trans (b5.mono B4.out.size));have K5:=hid (K4.out.below b5 K4.out.lt);clear b5 D4 B4 K4;obtain⟨S,hS⟩:∃ S,sum (stM++xs)=S:=⟨_,rfl⟩;have hSl:S.length=32:=by rw[←hS];rfl
 rw[hS];have HSL:=hid hSl;have HSS:=hid hS;have HZL:=hid (show(u8s zH).length=(u8s S).length by rw[u8s_length,u8s_length,hSl];rfl);clear hS hSl
 go_wp2_with ((with_reducible refine at_op (.store 36 (.tmp 2) (.tmp 13)) rfl ?_);go_must (refine store_blk 36 (.tmp 2) (.tmp 13) w.heap.size 36 (u8s zH) (u8s S) rfl rfl K5.out HZL.out (hash_size _ HSL.out) (u8s_oneD _) rfl rfl ?_))
 exact ret_blk (p:=2) (ty:=36) rfl rfl w.heap.size 36 _ _ rfl (K5.out.setRow _) Tryz.underlying36 rfl (hash_size _ HSL.out) ⟨by rw[HSS.out],below_setRow B5.out (Nat.le_refl _) _⟩
theorem putS_le {s:Sp} (h:spMay s=true) (h4:s.last.length=4):(putS s).length≤30000:=by
 have m:=spMay_w h;obtain⟨a,b,c,d,L⟩:=las_h h4 m.la;have h1:=flat_le (l:=s.its) (f:=putI) (c:=284) (λi hi=>putI_length (m.it i hi) m.n0);have h2:=flat_le (l:=s.wts) (f:=putW) (c:=284) (λi hi=>putW_length (m.wt i hi));have h3:=flat_le (l:=s.last) (f:=putL) (c:=284) (λi hi=>by
  rw[L.e] at hi;simp only[List.mem_cons,List.not_mem_nil,or_false] at hi;rcases hi with rfl |rfl |rfl |rfl
  ·exact putL_length L.ar
  ·exact putL_length L.br
  ·exact putL_length L.cr
  ·exact putL_length L.dr)
 have k1:284 * s.its.length≤284 * 64:=Nat.mul_le_mul_left _ m.il;have k2:284 * s.wts.length≤284 * 16:=Nat.mul_le_mul_left _ m.wl;rw[h4] at h3;unfold putS;simp only[List.length_append,beN_length];omega
theorem Digest_yes (x:Spv) (w:World) (hx:SpW w x) (hm:spMay x.sp=true) (hk:KAt w):
  Calls Tryz.prog 68 #[.agg (sv x).toArray] w λe w'=>e= .returned (.tuple #[.agg (u8s (sum (stM++putS x.sp))).toArray,.int .i64 0])∧Below w.heap.size w w':=by
 have B0:=hid ((Blk.new w 46 (sv x)).alloc (.cells (u8s zH).toArray 36));have R0:=hid (Blk.new2 w (.cells (sv x).toArray 46) 36 (u8s zH));have BW:=hid (((Below.refl w.heap.size w).alloc (Nat.le_refl _) (.cells (sv x).toArray 46)).alloc (by simp) (.cells (u8s zH).toArray 36));have FX:=hid (sv_size x hx.l4);have PY:=hid (SPut_yes x _ (hx.below BW.out) hm);have HL:=hid (putS_le hm (by show(x.last.map (·.r)).length=4;rw[List.length_map];exact hx.l4));have HB:=hid (putS_bytes x.sp);have HK:=hid hk;have HG:=hid hk.lt;obtain⟨xs,hxs⟩:∃ l,putS x.sp=l:=⟨_,rfl⟩;rw[hxs] at PY HL HB ⊢;clear hx hm hxs hk
 go_enter Tryz.func68,Tryz.ntmps68
 go_wp2_with ((with_reducible refine load_blk 46 (.tmp 1) w.heap.size 46 (sv x) _ rfl rfl ?_ Tryz.underlying46 ?_ ?_ ?_ ?_);exact B0.out;exact rfl;exact FX.out;exact rfl)
 refine PY.out.mono ?_
 rintro e w2 ⟨u,rfl,o2,b2⟩
 obtain⟨A,c,rfl,hc⟩:=own_form o2;have S2:=hid (Sr.of_own o2);have R2:=hid (R0.out.below b2 R0.out.lt);have B2:=hid (BW.out.trans (b2.mono BW.out.size));have OB_:=hid (OfB_t xs A xs.length c w2 rfl hc S2.out HB.out (by have:=HL.out;omega) (HK.out.below B2.out HG.out));clear b2 o2 PY B0 R0 BW hc;go_wp2_with fail
 refine OB_.out.mono ?_
 rintro e w3 ⟨rfl,b3⟩
 have R3:=hid (R2.out.below b3 R2.out.lt);have B3:=hid (B2.out.trans (b3.mono B2.out.size));obtain⟨S,hS⟩:∃ S,sum (stM++xs)=S:=⟨_,rfl⟩;have hSl:S.length=32:=by rw[←hS];rfl
 rw[hS];have HSS:=hid hS;have HSL:=hid hSl;have HZL:=hid (show(u8s zH).length=(u8s S).length by rw[u8s_length,u8s_length,hSl];rfl);have R4:=hid (R3.out.setRow (u8s S));have B4:=hid (below_setRow B3.out (by omega) (u8s S).toArray (g:=w.heap.size+1));clear b3 OB_ hS hSl R2 B2 S2
 go_wp2_with ((with_reducible refine at_op (.store 36 (.tmp 2) (.tmp 16)) rfl ?_);go_must (refine store_blk 36 (.tmp 2) (.tmp 16) (w.heap.size+1) 36 (u8s zH) (u8s S) rfl rfl R3.out HZL.out (hash_size _ HSL.out) (u8s_oneD _) rfl rfl ?_))
 exact ret_blkS (p:=2) (u:=3) (ty:=36) rfl rfl (w.heap.size+1) 36 _ _ rfl R4.out Tryz.underlying36 rfl (hash_size _ HSL.out) _ rfl ⟨by rw[HSS.out];rfl,B4.out⟩
end Go.Proofs.YtlipjglehongeaaGreatDoor
namespace Go.Proofs.YtlipjglehongeaaGreatDoor
open Go.RowKit Sh
theorem part_u8 (xs:List Nat) (k:Nat) (hk:k<xs.length) (w:World):(part 5 (u8s xs).toArray k).run Tryz.prog w= .ok (.int .u8 ((gt xs k:Nat):Int)) w:=by
 have ha:(isAgg 5).run Tryz.prog w= .ok false w:=by kernel_rfl
 unfold part;rw[Sem.run_bind,ha];simp[Result.andThen,u8s_get xs k hk]
theorem sum_bytes (l:List Nat) (_:Bytes l):Bytes (sum l):=by
 have hok:∀ s:S8,s.ok→Bytes (out s):=λs hs=>by
  rw[bytes_mem];intro x hx;obtain⟨v,hv,hx⟩:=List.mem_flatMap.1 hx;have hvl:v<4294967296:=by
   obtain⟨i,hi,rfl⟩:=List.mem_iff_getElem.1 hv;have:=list_lt hs i
   rwa [gt_of_lt hi] at this
  unfold bytes4 at hx;simp at hx;omega
 exact hok _ (run_ok _ _)
end Go.Proofs.YtlipjglehongeaaGreatDoor
namespace Go.Proofs.YtlipjglehongeaaGreatDoor
open Go Go.RowKit Sh
theorem run_forIn_find {P:Program} {β:Type} (r0 stop:β) (f:Nat→β→Sem (ForInStep β)) (bad:Nat→Bool) (w:World):∀ (ns:List Nat),(∀ i∈ns,(f i r0).run P w= .ok (if bad i then .done stop else .yield r0) w)→(forIn ns r0 f).run P w= .ok (if ns.any bad then stop else r0) w
 |[],_=>by simp[Sem.run_pure]
 |n::ns,h=>by
  have h1:=h n (List.mem_cons_self)
  cases hb:bad n with
  |true=>
   rw[hb] at h1;simp only[List.forIn_cons,Sem.run_bind,h1,Result.andThen];simp[hb,Sem.run_pure]
  |false=>
   rw[hb] at h1;simp only[List.forIn_cons,Sem.run_bind,h1,Result.andThen];simp only[Bool.false_eq_true,if_false];rw[run_forIn_find r0 stop f bad w ns (λi hi=>h i (List.mem_cons_of_mem _ hi))];simp[hb]
theorem eqIn_u8s (d t n:Nat) (ht:Tryz.prog.underlying t=some (.array n 5)) (xs ys:List Nat) (hx:xs.length=n) (hy:ys.length=n) (w:World):
  (Op.equalIn (d+2) t (.agg (u8s xs).toArray) (.agg (u8s ys).toArray)).run Tryz.prog w= .ok (decide (xs=ys)) w:=by
 have h5:(sizeOf 5).run Tryz.prog w= .ok 1 w:=by kernel_rfl
 unfold Op.equalIn;simp only[Sem.run_bind,run_underlying ht,Result.andThen_ok,h5,Nat.mul_one];have key:∀ i,i<n→(Op.equalIn (d+1) 5 (.int .u8 ((gt xs i:Nat):Int)) (.int .u8 ((gt ys i:Nat):Int))).run Tryz.prog w= .ok (decide (gt xs i=gt ys i)) w:=λi hi=>by
  rw[run_equalIn_int w d 5 .u8 .u8 _ _ Tryz.underlying5];simp;rw[Bool.eq_iff_iff];simp;omega
 simp only[Std.Legacy.Range.forIn_eq_forIn_range',Std.Legacy.Range.size];rw[run_forIn_find (none,()) (some false,()) _ (λi=>decide (gt xs i≠gt ys i)) w _ (λi hi=>by
  have hi2:i<n:=by simpa using hi
  simp only[Sem.run_bind,part_u8 xs i (by omega),part_u8 ys i (by omega),Result.andThen_ok,key i hi2]
  by_cases he:gt xs i=gt ys i
  ·simp[he,Sem.run_pure]
  ·simp[he,Sem.run_pure])]
 have ha:((List.range' 0 ((n-0+1-1) / 1)).any λi=>decide (gt xs i≠gt ys i))= !decide (xs=ys):=by
  by_cases he:xs=ys
  ·subst he;simp
  ·have:∃ i,i<n∧gt xs i≠gt ys i:=by
    refine Classical.byContradiction λhno=>he ?_
    apply List.ext_getElem (by omega);intro i h1 h2;have h3:gt xs i=gt ys i:=Classical.byContradiction λh=>hno ⟨i,by omega,h⟩
    rwa [gt_of_lt h1,gt_of_lt h2] at h3
   obtain⟨i,hi,hne⟩:=this;simp only[he,decide_false,Bool.not_false];rw[List.any_eq_true];exact⟨i,by simp;omega,by simpa using hne⟩
 rw[ha]
 by_cases he:xs=ys<;>simp[he,Result.andThen,Sem.run_pure]
theorem eqIn_hash (S:List Nat) (h:S.length=32) (w:World):(Op.equalIn 10000 36 (.agg (u8s S).toArray) (.agg (u8s S).toArray)).run Tryz.prog w= .ok true w:=by
 rw[eqIn_u8s 9998 36 32 Tryz.underlying36 S S h h w,decide_eq_true rfl]
theorem str_beqT (xs ys:List Nat) (hx:Bytes xs) (hy:Bytes ys):((str xs).toList == (str ys).toList)=decide (xs=ys):=by
 by_cases h:xs=ys
 ·subst h;simp
 ·have hne:(str xs).toList≠(str ys).toList:=λe=>h (by rw[←bs_str xs hx,←bs_str ys hy,bs,bs,e])
  rw[beq_eq_false_iff_ne.2 hne,decide_eq_false h]
end Go.Proofs.YtlipjglehongeaaGreatDoor
