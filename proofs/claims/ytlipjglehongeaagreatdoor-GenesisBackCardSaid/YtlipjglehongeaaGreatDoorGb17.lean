/-
  PACKAGE space
  LAW 8
  LAYER 9
  PACKAGE genesis
-/
import Derived.Test.YtlipjglehongeaaGreatDoorGb9
import Derived.Test.YtlipjglehongeaaGreatDoorGb11
import Derived.Test.YtlipjglehongeaaGreatDoorGb12
import Derived.Test.YtlipjglehongeaaGreatDoorGb16
import Derived.Test.YtlipjglehongeaaGreatDoorGb3
import Derived.Test.YtlipjglehongeaaGreatDoorTk
open Go.Lib (hid)
set_option maxRecDepth 100000
namespace Go.Proofs.YtlipjglehongeaaGreatDoor
open Go Go.RowKit Sh
def nrep (c:Int):Rpv:=⟨⟨c,0,0,[],false⟩,none,0⟩
def nsp (rd wr:Int) (a b c d:Int):Spv:=⟨0,[],none,0,[],none,0,bits .and .i64 rd 15,bits .and .i64 wr 15,[nrep a,nrep b,nrep c,nrep d]⟩
theorem nsp_w (rd wr a b c d:Int) (w:World):SpW w (nsp rd wr a b c d):=by
 have h:∀ z:Int,TR w (nrep z).p (nrep z).r.t:=λz=>⟨λj hj=>absurd hj (Nat.not_lt_zero j),Nat.zero_le _⟩
 refine⟨RowL.nil,λy hy=>absurd hy List.not_mem_nil,RowL.nil,λy hy=>absurd hy List.not_mem_nil,rfl,λy hy=>?_,Nat.zero_le _,Nat.zero_le _⟩;simp only[nsp,List.mem_cons,List.not_mem_nil,or_false] at hy;rcases hy with rfl |rfl |rfl |rfl
 ·exact h a
 ·exact h b
 ·exact h c
 ·exact h d
theorem nsp_sp (rd wr:Int):(nsp rd wr 0 1 2 3).sp=newS rd wr:=rfl
def nK (rd wr:Int) (j:Nat):Spv:=nsp rd wr 0 (if 1<j then 1 else 0) (if 2<j then 2 else 0) (if 3<j then 3 else 0)
theorem nK_set (rd wr:Int) (j:Nat) (hj:j<4):(sv (nK rd wr j)).set (5+j * 5) (.int .i64 (j:Int))=sv (nK rd wr (j+1)):=by
 have hc:j=0∨j=1∨j=2∨j=3:=by omega
 rcases hc with rfl |rfl |rfl |rfl<;>rfl
structure NW (w0 W:World) (rd wr:Int) (j:Nat):Prop where
 a:Blk W (w0.heap.size+1) 46 (sv (nK rd wr j))
 z:Blk W w0.heap.size 46 [.int .i64 0,.slice none 0 0,.slice none 0 0,.int .i64 0,.int .i64 0,.int .i64 0,.int .i64 0,.int .i64 0,.slice none 0 0,.bool false,.int .i64 0,.int .i64 0,.int .i64 0,.slice none 0 0,.bool false,.int .i64 0,.int .i64 0,.int .i64 0,.slice none 0 0,.bool false,.int .i64 0,.int .i64 0,.int .i64 0,.slice none 0 0,.bool false]
 bel:Below w0.heap.size w0 W
set_option maxHeartbeats 1000000 in
theorem New_t (rd wx:Int) (w:World):Calls Tryz.prog 110 #[.int .i64 rd,.int .i64 wx] w λe w'=>e= .returned (.agg (sv (nsp rd wx 0 1 2 3)).toArray)∧Below w.heap.size w w':=by
 have Y0:=hid (Blk.new2 w (.cells #[.int .i64 0,.slice none 0 0,.slice none 0 0,.int .i64 0,.int .i64 0,.int .i64 0,.int .i64 0,.int .i64 0,.slice none 0 0,.bool false,.int .i64 0,.int .i64 0,.int .i64 0,.slice none 0 0,.bool false,.int .i64 0,.int .i64 0,.int .i64 0,.slice none 0 0,.bool false,.int .i64 0,.int .i64 0,.int .i64 0,.slice none 0 0,.bool false] 46) 46 [.int .i64 0,.slice none 0 0,.slice none 0 0,.int .i64 0,.int .i64 0,.int .i64 0,.int .i64 0,.int .i64 0,.slice none 0 0,.bool false,.int .i64 0,.int .i64 0,.int .i64 0,.slice none 0 0,.bool false,.int .i64 0,.int .i64 0,.int .i64 0,.slice none 0 0,.bool false,.int .i64 0,.int .i64 0,.int .i64 0,.slice none 0 0,.bool false]);have S0:=hid (show NW w (((w.alloc (.cells #[.int .i64 0,.slice none 0 0,.slice none 0 0,.int .i64 0,.int .i64 0,.int .i64 0,.int .i64 0,.int .i64 0,.slice none 0 0,.bool false,.int .i64 0,.int .i64 0,.int .i64 0,.slice none 0 0,.bool false,.int .i64 0,.int .i64 0,.int .i64 0,.slice none 0 0,.bool false,.int .i64 0,.int .i64 0,.int .i64 0,.slice none 0 0,.bool false] 46)).alloc (.cells #[.int .i64 0,.slice none 0 0,.slice none 0 0,.int .i64 0,.int .i64 0,.int .i64 0,.int .i64 0,.int .i64 0,.slice none 0 0,.bool false,.int .i64 0,.int .i64 0,.int .i64 0,.slice none 0 0,.bool false,.int .i64 0,.int .i64 0,.int .i64 0,.slice none 0 0,.bool false,.int .i64 0,.int .i64 0,.int .i64 0,.slice none 0 0,.bool false] 46)).setRow (w.heap.size+1) (sv (nK rd wx 0)).toArray) rd wx 0 from by
  have b1:=(Below.refl w.heap.size w).alloc (Nat.le_refl _) (.cells #[.int .i64 0,.slice none 0 0,.slice none 0 0,.int .i64 0,.int .i64 0,.int .i64 0,.int .i64 0,.int .i64 0,.slice none 0 0,.bool false,.int .i64 0,.int .i64 0,.int .i64 0,.slice none 0 0,.bool false,.int .i64 0,.int .i64 0,.int .i64 0,.slice none 0 0,.bool false,.int .i64 0,.int .i64 0,.int .i64 0,.slice none 0 0,.bool false] 46);exact⟨(Blk.new2 w _ _ _).setRow _,((Blk.new w 46 [.int .i64 0,.slice none 0 0,.slice none 0 0,.int .i64 0,.int .i64 0,.int .i64 0,.int .i64 0,.int .i64 0,.slice none 0 0,.bool false,.int .i64 0,.int .i64 0,.int .i64 0,.slice none 0 0,.bool false,.int .i64 0,.int .i64 0,.int .i64 0,.slice none 0 0,.bool false,.int .i64 0,.int .i64 0,.int .i64 0,.slice none 0 0,.bool false]).alloc _).setRow_far (by omega) _,below_setRow (b1.alloc (by simp) _) (Nat.le_succ _) _⟩)
 have F0:=hid (sv_size (nK rd wx 0) rfl);have F10:=hid (sv_one (nK rd wx 0));have hl:sv (nK rd wx 0)=[.int .i64 0,.slice none 0 0,.slice none 0 0,.int .i64 (bits .and .i64 rd 15),.int .i64 (bits .and .i64 wx 15),.int .i64 0,.int .i64 0,.int .i64 0,.slice none 0 0,.bool false,.int .i64 0,.int .i64 0,.int .i64 0,.slice none 0 0,.bool false,.int .i64 0,.int .i64 0,.int .i64 0,.slice none 0 0,.bool false,.int .i64 0,.int .i64 0,.int .i64 0,.slice none 0 0,.bool false]:=rfl;rw[hl] at S0 F0 F10;clear hl
 go_enter Tryz.func110,Tryz.ntmps110
 go_upto_region 3 with(((with_reducible refine store_blk 46 (.tmp 5) (.tmp 11) (w.heap.size+1) 46 [.int .i64 0,.slice none 0 0,.slice none 0 0,.int .i64 0,.int .i64 0,.int .i64 0,.int .i64 0,.int .i64 0,.slice none 0 0,.bool false,.int .i64 0,.int .i64 0,.int .i64 0,.slice none 0 0,.bool false,.int .i64 0,.int .i64 0,.int .i64 0,.slice none 0 0,.bool false,.int .i64 0,.int .i64 0,.int .i64 0,.slice none 0 0,.bool false] [.int .i64 0,.slice none 0 0,.slice none 0 0,.int .i64 (bits .and .i64 rd 15),.int .i64 (bits .and .i64 wx 15),.int .i64 0,.int .i64 0,.int .i64 0,.slice none 0 0,.bool false,.int .i64 0,.int .i64 0,.int .i64 0,.slice none 0 0,.bool false,.int .i64 0,.int .i64 0,.int .i64 0,.slice none 0 0,.bool false,.int .i64 0,.int .i64 0,.int .i64 0,.slice none 0 0,.bool false] rfl rfl ?_ ?_ ?_ ?_ ?_ ?_ ?_);exact Y0.out;exact rfl;exact F0.out;exact F10.out;exact rfl;exact rfl))
 clear Y0 F0 F10
 go_loopw [12] (λx wr=>∃ j:Nat,j≤4∧x= .int .i64 (j:Int)∧NW w wr rd wx j) (λx _=>4- (intOf x).toNat)
 case atStart=>exact⟨0,by omega,rfl,S0.out⟩
 case round=>
  obtain⟨j,hj,rfl,hS⟩:=hrel;have S1:=hid hS;clear hS S0
  by_cases hlt:j<4
  ·have j1:(j:Int)<4:=by omega
   have ct:∃ v,wr.cell? ⟨w.heap.size+1,5+j * 5,none⟩=some v:=by
    rw[S1.out.a.cell];exact⟨_,List.getElem?_eq_getElem (by rw[sv_len _ rfl];omega)⟩
   obtain⟨v,ct⟩:=ct;have fz:=S1.out.a.frozen (5+j * 5);have S2:=hid (show NW w (wr.setCell ⟨w.heap.size+1,5+j * 5,none⟩ (.int .i64 (j:Int))) rd wx (j+1) from by
    refine⟨?_,S1.out.z.far (p:=⟨w.heap.size+1,5+j * 5,none⟩) (by show w.heap.size≠w.heap.size+1;omega) _,S1.out.bel.setCell (p:=⟨w.heap.size+1,5+j * 5,none⟩) (Nat.le_succ _) _⟩;rw[←nK_set rd wx j hlt];exact S1.out.a.store _ _)
   go_wp2_with fail
   go_roundw
   case rel=>exact⟨j+1,hlt,by go_num,S2.out⟩
   case measure=>simp[intOf];omega
  ·obtain rfl:j=4:=by omega
   clear hlt;have FS:=hid (sv_size (nK rd wx 4) rfl);have F1:=hid (sv_one (nK rd wx 4));have A1:=hid S1.out.a;have Z1:=hid S1.out.z;have Z2:=hid (S1.out.z.setRow (sv (nK rd wx 4)));have B2:=hid (below_setRow S1.out.bel (Nat.le_refl _) (sv (nK rd wx 4)).toArray)
   go_wp2_with (first
    |((with_reducible refine load_blk 46 (.tmp 5) (w.heap.size+1) 46 (sv (nK rd wx 4)) _ rfl rfl ?_ Tryz.underlying46 ?_ ?_ ?_ ?_);exact A1.out;exact rfl;exact FS.out;exact rfl)
    |((with_reducible refine store_blk 46 (.tmp 4) (.tmp 21) w.heap.size 46 [.int .i64 0,.slice none 0 0,.slice none 0 0,.int .i64 0,.int .i64 0,.int .i64 0,.int .i64 0,.int .i64 0,.slice none 0 0,.bool false,.int .i64 0,.int .i64 0,.int .i64 0,.slice none 0 0,.bool false,.int .i64 0,.int .i64 0,.int .i64 0,.slice none 0 0,.bool false,.int .i64 0,.int .i64 0,.int .i64 0,.slice none 0 0,.bool false] (sv (nK rd wx 4)) rfl rfl ?_ ?_ ?_ ?_ ?_ ?_ ?_);exact Z1.out;exact rfl;exact FS.out;exact F1.out;exact rfl;exact rfl))
   exact ret_blk (p:=4) (ty:=46) rfl rfl w.heap.size 46 _ _ rfl Z2.out Tryz.underlying46 rfl FS.out ⟨rfl,B2.out⟩
def fA:Fld:=⟨5,0,eS⟩
def fI (n:Int):Fld:=⟨1,n,eS⟩
def q1:Rq:=⟨0,1,5,0,1,λ_=>fA,0,λ_=>f0⟩
def q2:Rq:=⟨1,1,1,9,0,λ_=>f0,1,λ_=>fI 4⟩
structure KSp (W:World) (g:Nat) (x:Spv):Prop where
 box:Blk W g 46 (sv x)
 w:SpW W x
theorem KSp.below {W W':World} {g:Nat} {x:Spv} (h:KSp W g x) (hb:Below W.heap.size W W'):KSp W' g x:=⟨h.box.below hb h.box.lt,h.w.below hb⟩
theorem KSp.new {w1:World} {x:Spv} (h:SpW w1 x):KSp ((w1.alloc (.cells #[.int .i64 0,.slice none 0 0,.slice none 0 0,.int .i64 0,.int .i64 0,.int .i64 0,.int .i64 0,.int .i64 0,.slice none 0 0,.bool false,.int .i64 0,.int .i64 0,.int .i64 0,.slice none 0 0,.bool false,.int .i64 0,.int .i64 0,.int .i64 0,.slice none 0 0,.bool false,.int .i64 0,.int .i64 0,.int .i64 0,.slice none 0 0,.bool false] 46)).setRow w1.heap.size (sv x).toArray) w1.heap.size x∧Below w1.heap.size w1 ((w1.alloc (.cells #[.int .i64 0,.slice none 0 0,.slice none 0 0,.int .i64 0,.int .i64 0,.int .i64 0,.int .i64 0,.int .i64 0,.slice none 0 0,.bool false,.int .i64 0,.int .i64 0,.int .i64 0,.slice none 0 0,.bool false,.int .i64 0,.int .i64 0,.int .i64 0,.slice none 0 0,.bool false,.int .i64 0,.int .i64 0,.int .i64 0,.slice none 0 0,.bool false] 46)).setRow w1.heap.size (sv x).toArray):=by
 have b:=below_setRow (g:=w1.heap.size) ((Below.refl w1.heap.size w1).alloc (Nat.le_refl _) (.cells #[.int .i64 0,.slice none 0 0,.slice none 0 0,.int .i64 0,.int .i64 0,.int .i64 0,.int .i64 0,.int .i64 0,.slice none 0 0,.bool false,.int .i64 0,.int .i64 0,.int .i64 0,.slice none 0 0,.bool false,.int .i64 0,.int .i64 0,.int .i64 0,.slice none 0 0,.bool false,.int .i64 0,.int .i64 0,.int .i64 0,.slice none 0 0,.bool false] 46)) (Nat.le_refl _) (sv x).toArray;exact⟨⟨(Blk.new w1 46 [.int .i64 0,.slice none 0 0,.slice none 0 0,.int .i64 0,.int .i64 0,.int .i64 0,.int .i64 0,.int .i64 0,.slice none 0 0,.bool false,.int .i64 0,.int .i64 0,.int .i64 0,.slice none 0 0,.bool false,.int .i64 0,.int .i64 0,.int .i64 0,.slice none 0 0,.bool false,.int .i64 0,.int .i64 0,.int .i64 0,.slice none 0 0,.bool false]).setRow (sv x),h.below b⟩,b⟩
def nS9:Sp:=newS 15 7
theorem in9:InS nS9:=by
 refine⟨λi hi=>?_,λi hi=>?_,λr hr f hf=>?_⟩
 ·cases hi
 ·cases hi
 ·simp only[nS9,newS,List.mem_cons,List.not_mem_nil,or_false] at hr;rcases hr with rfl |rfl |rfl |rfl<;>cases hf
theorem gsp_w (a b c:Int) (W:World):SpW W (gsp a b c):=
 ⟨RowL.nil,(λy hy=>by cases hy),RowL.nil,(λy hy=>by cases hy),rfl,(λy hy=>by
  simp only[gsp,List.mem_cons,List.not_mem_nil,or_false] at hy;rcases hy with rfl |rfl |rfl |rfl<;>exact⟨λj hj=>absurd hj (Nat.not_lt_zero j),Nat.zero_le _⟩),Nat.zero_le _,Nat.zero_le _⟩
structure Ky where
 A:Option Addr
 c:Nat
 X:List Nat
def kyv (k:Ky):List Value:=[.slice k.A k.X.length k.c]
theorem kyv_len (k:Ky):(kyv k).length=1:=rfl
theorem kyv_one (k:Ky):∀ v∈kyv k,v.oneCell'=true:=λv hv=>by
 simp only[kyv,List.mem_cons,List.not_mem_nil,or_false] at hv;subst hv;rfl
structure Gv where
 f:Int
 rd:Int
 wr:Int
 kp:Option Addr
 kc:Nat
 ks:List Ky
 sp:Option Addr
 sc:Nat
 st:List Nat
def gv (x:Gv):List Value:=[.int .i64 x.f,.int .i64 x.rd,.int .i64 x.wr,.slice x.kp x.ks.length x.kc,.slice x.sp x.st.length x.sc]
theorem gv_size (x:Gv):(Tryz.prog.info? 25).map (·.size)=some (gv x).length:=by
 show(Tryz.prog.info? 25).map (·.size)=some 5
 kernel_rfl
theorem gv_one (x:Gv):(gv x).toArray.all (·.oneCell')=true:=by simp[gv,Value.oneCell']
theorem gv_cells {W:World} {g:Nat} {t:TypeId} {x:Gv} (h:Blk W g t (gv x)):W.cell? ⟨g,0,none⟩=some (.int .i64 x.f)∧W.cell? ⟨g,1,none⟩=some (.int .i64 x.rd)∧W.cell? ⟨g,2,none⟩=some (.int .i64 x.wr)∧W.cell? ⟨g,3,none⟩=some (.slice x.kp x.ks.length x.kc)∧W.cell? ⟨g,4,none⟩=some (.slice x.sp x.st.length x.sc):=
 ⟨h.cell 0,h.cell 1,h.cell 2,h.cell 3,h.cell 4⟩
structure GvW (W:World) (x:Gv):Prop where
 ks:RowL W x.kp 1 kyv x.ks
 k:∀ y∈x.ks,Sr W y.A y.X
 kb:∀ y∈x.ks,Bytes y.X
 kn:∀ y∈x.ks,y.X.length≤9223372036854775807
 kl:x.ks.length≤9223372036854775807
 st:Sr W x.sp x.st
 sb:Bytes x.st
 sl:x.st.length≤1000000
 sc:x.st.length≤x.sc
theorem GvW.below {W W':World} {x:Gv} (h:GvW W x) (hb:Below W.heap.size W W'):GvW W' x:=
 ⟨h.ks.below hb,λy hy=>(h.k y hy).below hb,h.kb,h.kn,h.kl,h.st.below hb,h.sb,h.sl,h.sc⟩
structure GB9 (w0 W:World) (x:Gv):Prop where
 a:Blk W w0.heap.size 25 (gv x)
 rx:GvW W x
 bel:Below w0.heap.size w0 W
theorem GB9.below {w0 W W':World} {x:Gv} (h:GB9 w0 W x) (hb:Below W.heap.size W W'):GB9 w0 W' x:=⟨h.a.below hb h.a.lt,h.rx.below hb,h.bel.trans (hb.mono h.bel.size)⟩
theorem GB9.new {w:World} {x:Gv} (h:GvW w x):GB9 w (w.alloc (.cells (gv x).toArray 25)) x:=by
 have b1:=(Below.refl w.heap.size w).alloc (Nat.le_refl _) (.cells (gv x).toArray 25);exact⟨Blk.new w 25 (gv x),h.below b1,b1⟩
def fltB (f:Int):Bool:=decide (0≤f) && decide (f≤2)
def mayK (f:Int) (l:List (List Nat)):Bool:=decide ((l.length:Int)=3 * f+1) && l.all formN
theorem faults_t (f:Int) (w:World):Calls Tryz.prog 53 #[.int .i64 f] w λe w'=>e= .returned (.bool (fltB f))∧w=w':=by
 unfold fltB
 by_cases h:0≤f
 ·rw[decide_eq_true h,Bool.true_and];obtain⟨b,hb⟩:∃ b,decide (f≤2)=b:=⟨_,rfl⟩;rw[hb]
  go_enter Tryz.func53,Tryz.ntmps53
  go_wp2_with fail
  go_ret;exact⟨rfl,rfl⟩
 ·have h1:decide (0≤f)=false:=decide_eq_false h;rw[h1,Bool.false_and]
  go_enter Tryz.func53,Tryz.ntmps53
  go_wp2_with fail
  go_ret;exact⟨rfl,rfl⟩
theorem allowG_t (f:Int) (w:World):Calls Tryz.prog 108 #[.int .i64 f] w λe w'=>e= .returned (.bool (alB f))∧w=w':=by
 unfold alB
 by_cases h:0≤f
 ·rw[decide_eq_true h,Bool.true_and];obtain⟨b,hb⟩:∃ b,decide (f≤15)=b:=⟨_,rfl⟩;have h2:decide (f<16)=b:=by rw[←hb];exact decide_eq_decide.2 (by omega)
  rw[hb];clear hb
  go_enter Tryz.func108,Tryz.ntmps108
  go_wp2_with fail
  go_ret;exact⟨rfl,rfl⟩
 ·have h1:decide (0≤f)=false:=decide_eq_false h;rw[h1,Bool.false_and]
  go_enter Tryz.func108,Tryz.ntmps108
  go_wp2_with fail
  go_ret;exact⟨rfl,rfl⟩
theorem keysFor_t (f:Int) (h0:0≤f) (h2:f≤2) (w:World):Calls Tryz.prog 55 #[.int .i64 f] w λe w'=>e= .returned (.int .i64 (3 * f+1))∧w=w':=by
 go_enter Tryz.func55,Tryz.ntmps55
 go_wp2_with fail
 go_ret;exact⟨by first |rfl |(congr 2;go_num),rfl⟩
set_option maxHeartbeats 1000000 in
theorem mayKeys_t (x:Gv) (w:World) (h:GvW w x) (h0:0≤x.f) (h2:x.f≤2) (hk:KI w):
  Calls Tryz.prog 109 #[.agg (gv x).toArray] w λe w'=>e= .returned (.bool (mayK x.f (x.ks.map (·.X))))∧Below w.heap.size w w':=by
 have S0:=hid (GB9.new h);have HK:=hid hk;obtain⟨n,hn⟩:∃ n,x.ks.length=n:=⟨_,rfl⟩;obtain⟨f,hf⟩:∃ n,x.f=n:=⟨_,rfl⟩;have HN:=hid hn;obtain⟨kp,hkp⟩:∃ p,x.kp=p:=⟨_,rfl⟩;have HKP:=hid hkp;have hnl:n≤9223372036854775807:=by rw[←hn];exact h.kl
 have hm:mayK x.f (x.ks.map (·.X))=(decide ((n:Int)=3 * f+1) && x.ks.all λy=>formN y.X):=by
  unfold mayK;rw[List.length_map,hn,hf,List.all_map];rfl
 obtain⟨r,hr⟩:∃ r,mayK x.f (x.ks.map (·.X))=r:=⟨_,rfl⟩;have HR:=hid (show r=(decide ((n:Int)=3 * f+1) && x.ks.all λy=>formN y.X) from hr.symm.trans hm);rw[hr];have CELL:=hid (λ(W:World) (h:GB9 w W x)=>show W.cell? ⟨w.heap.size,0,none⟩=some (.int .i64 f)∧W.cell? ⟨w.heap.size,3,none⟩=some (.slice kp n x.kc) from by
  have:=gv_cells h.a;rw[hf,hn,hkp] at this;exact⟨this.1,this.2.2.2.1⟩)
 rw[hf] at h0 h2;have KF:=hid (λW=>keysFor_t f h0 h2 W);clear h hk hm hn hf hr hkp
 go_enter Tryz.func109,Tryz.ntmps109
 go_upto_region 1 with(fail)
 refine wp_region_held (S:=λW=>W.cell? ⟨w.heap.size,0,none⟩=some (.int .i64 f)∧W.cell? ⟨w.heap.size,3,none⟩=some (.slice kp n x.kc)) (by kernel_rfl) ?_;change wpAnyH _ _ _ _ _ _ _ _ (w.alloc (.cells (gv x).toArray 25)).drew;obtain⟨U,hU⟩:∃ U,(w.alloc (.cells (gv x).toArray 25)).drew=U:=⟨_,rfl⟩;have Z0:=hid (show GB9 w U x from S0.out.below (by rw[←hU];exact(Below.refl _ _).drew));rw[hU];clear hU S0;have r0:=CELL.out _ Z0.out;refine tka9 0 r0 ?_;refine tka9 3 r0 ?_;refine tk9 1 ?_ ?_ r0 ?_;rotate_left 1
 ·(intro w hS;have hs:=hS.2;clear hS;go_simp;try (with_reducible rfl))
 refine tka9 2 r0 ?_;refine tk9 4 ?_ ?_ r0 ?_;rotate_left 1
 ·(intro w hS;have hs:=hS.1;clear hS;go_simp;try (with_reducible rfl))
 refine rd9 5 λK hK=>?_
 go_simp;refine(KF.out _).mono ?_
 rintro e w5 ⟨rfl,rfl⟩
 refine hK.out _ _ r0 (λhz=>?_);clear hK K KF hz;refine tka9 6 r0 ?_;refine wpAnyH_done (by kernel_rfl) ?_ _;go_simp
 by_cases hl:(n:Int)=3 * f+1
 ·have e1:((n:Int) != 3 * f+1)=false:=by rw[bne_eq_false_iff_eq];exact hl
  have HR2:=hid (show r=(x.ks.all λy=>formN y.X) from by have:=HR.out;rw[decide_eq_true hl,Bool.true_and] at this;exact this);have n7:n≤7:=by omega
  clear hl HR;rw[e1];clear e1;go_wp2_with fail
  clear r0
  go_loopw [15] (λt wr=>∃ j:Nat,j≤n∧t= .int .i64 (j:Int)∧GB9 w wr x∧∀ (i:Nat) (y:Ky),i<j→x.ks[i]? =some y→formN y.X=true) (λt _=>n- (intOf t).toNat)
  case atStart=>exact⟨0,by omega,rfl,Z0.out,λi y hi=>absurd hi (by omega)⟩
  case round=>
   clear Z0;obtain⟨j,hj,rfl,s0,hb⟩:=hrel;have S0:=hid s0;have HB:=hid hb;clear s0 hb
   by_cases hlt:j<n
   ·obtain⟨y,hy⟩:∃ y,x.ks[j]? =some y:=⟨_,List.getElem?_eq_getElem (by rw[HN.out];exact hlt)⟩;obtain⟨b,o,hpe,hbl,rg⟩:=S0.out.rx.ks j y hy;obtain rfl:kp=some ⟨b,o,none⟩:=HKP.out.symm.trans hpe;have c1:wr.cell? ⟨b,o+j,none⟩=some (.slice y.A y.X.length y.c):=by have:=rg 0 _ rfl;rw[Nat.mul_one,Nat.add_zero] at this;exact this
    have j1:(j:Int)< (n:Int):=by omega
    have HM:=List.mem_of_getElem? hy;have FT_:=hid (form_t y.X y.A y.X.length y.c wr rfl (S0.out.rx.k y HM) (S0.out.rx.kb y HM) (S0.out.rx.kn y HM) (HK.out.kept S0.out.bel));have HY:=hid hy;obtain⟨fb,hfb⟩:∃ b,formN y.X=b:=⟨_,rfl⟩;rw[hfb] at FT_;have HFB:=hid hfb;clear hfb rg hpe hbl hy HM;go_wp2_with fail
    refine FT_.out.mono ?_
    rintro e w3 ⟨rfl,b3⟩
    have S3:=hid (S0.out.below b3);clear b3 FT_ S0 c1
    cases fb with
    |false=>
     have hR:(x.ks.all λy=>formN y.X)=false:=by
      cases hq:(x.ks.all λy=>formN y.X) with
      |false=>rfl
      |true=>
       have:=List.all_eq_true.1 hq y (List.mem_of_getElem? HY.out);rw[HFB.out] at this
       cases this
     obtain rfl:r=false:=HR2.out.trans hR;go_wp2_with fail
     go_ret;exact⟨rfl,S3.out.bel⟩
    |true=>
     have HB2:=hid (show ∀ (i:Nat) (y:Ky),i<j+1→x.ks[i]? =some y→formN y.X=true from λi y hi hy=>by
      rcases Nat.lt_or_ge i j with h |h
      ·exact HB.out i y h hy
      ·obtain rfl:i=j:=by omega
       rw[HY.out] at hy;obtain rfl:=Option.some.inj hy;exact HFB.out)
     go_wp2_with fail
     go_roundw
     case rel=>
      exact⟨j+1,hlt,by go_num,S3.out,HB2.out⟩
     case measure=>simp[intOf];omega
   ·obtain rfl:j=n:=by omega
    have hR:(x.ks.all λy=>formN y.X)=true:=List.all_eq_true.2 λy hy=>by
     obtain⟨i,hi⟩:=List.getElem?_of_mem hy;exact HB.out i y (by have:=(List.getElem?_eq_some_iff.1 hi).1;rw[HN.out] at this;exact this) hi
    obtain rfl:r=true:=HR2.out.trans hR;clear hlt hR;go_wp2_with fail
    go_ret;exact⟨rfl,S0.out.bel⟩
 ·have e1:((n:Int) != 3 * f+1)=true:=by rw[bne_iff_ne];exact hl
  obtain rfl:r=false:=by have:=HR.out;rw[decide_eq_false hl,Bool.false_and] at this;exact this
  go_wp2_with fail
  go_ret;exact⟨rfl,Z0.out.bel⟩
end Go.Proofs.YtlipjglehongeaaGreatDoor
