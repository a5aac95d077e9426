/-
  PACKAGE vote, what is pure
  PACKAGE vote
  PACKAGE vote
  PACKAGE vote
  THE REFERENCE OF CHAPTER 9
  THE REFERENCE OF CHAPTER 9
  THE REFERENCE
  THE REFERENCE
  FEW
  StateAsks walked
-/
import Derived.Test.YtjlophplcmidlaaGreatDoorAb11
import Derived.Test.YtjlophplcmidlaaGreatDoorAb2
import Derived.Test.YtjlophplcmidlaaGreatDoorAb22
import Derived.Test.YtjlophplcmidlaaGreatDoorAb24
import Derived.Test.YtjlophplcmidlaaGreatDoorAb19
import Derived.Test.YtjlophplcmidlaaGreatDoorAb25
import Derived.Test.YtjlophplcmidlaaGreatDoorAb31
import Derived.Test.YtjlophplcmidlaaGreatDoorAb17
import Derived.Test.YtjlophplcmidlaaGreatDoorAb15
import Derived.Test.YtjlophplcmidlaaGreatDoorAb27
open Go.Lib (hid)
set_option maxRecDepth 100000
namespace Go.Proofs.YtjlophplcmidlaaGreatDoor
open Go Go.RowKit Sh
structure Vt where
 p:Int
 f:Int
 l:List Nat
 s:List Nat
def mayVo (x:Vt):Bool:=(decide (0≤x.p) && decide (x.p≤1048576)) && ((decide (0≤x.f) && decide (x.f≤6)) && decide (x.s.length≤9000))
theorem mayVo_h {x:Vt} (h:mayVo x=true):0≤x.p∧x.p≤1048576∧0≤x.f∧x.f≤6∧x.s.length≤9000:=by
 unfold mayVo at h;simp only[Bool.and_eq_true,decide_eq_true_eq] at h;obtain⟨⟨h1,h2⟩,⟨h3,h4⟩,h5⟩:=h;exact⟨h1,h2,h3,h4,h5⟩
def putV (x:Vt):List Nat:=beN x.p.toNat 4++(beN x.f.toNat 1++(x.l++txtN x.s))
def rawN (xs:List Nat) (bad:Bool) (n:Nat):List Nat×List Nat×Bool:=if n≤xs.length then(xs.take n,xs.drop n,bad) else([],[],true)
def lnkN (l:List Nat):List Nat:=l++List.replicate (32-l.length) 0
def v1 (xs:List Nat):=rNum xs false 4
def v2 (xs:List Nat):=rNum (v1 xs).2.1 (v1 xs).2.2 1
def v3 (xs:List Nat):=rawN (v2 xs).2.1 (v2 xs).2.2 32
def v4 (xs:List Nat):=rTxt (v3 xs).2.1 (v3 xs).2.2 9000
def gotV (xs:List Nat):Vt:=⟨((v1 xs).1 :Nat),((v2 xs).1 :Nat),lnkN (v3 xs).1,(v4 xs).1⟩
def okV9 (xs:List Nat):Bool:=decide (endN (v4 xs).2.1 (v4 xs).2.2 =0) && mayVo (gotV xs)
theorem rawN_len (xs:List Nat) (bad:Bool) (n:Nat):(rawN xs bad n).1.length≤n∧(rawN xs bad n).2.1.length≤xs.length:=by
 unfold rawN
 split
 ·exact⟨by rw[List.length_take];omega,by rw[List.length_drop];omega⟩
 ·exact⟨Nat.zero_le _,Nat.zero_le _⟩
theorem rawN_bytes {xs:List Nat} (bad:Bool) (n:Nat) (h:Bytes xs):Bytes (rawN xs bad n).1 ∧Bytes (rawN xs bad n).2.1 :=by
 unfold rawN
 split
 ·exact⟨bytes_take h _,bytes_drop h _⟩
 ·exact⟨nil_bytes,nil_bytes⟩
theorem rawN_front (l ys:List Nat) (bad:Bool) (n:Nat) (h:l.length=n):rawN (l++ys) bad n=(l,ys,bad):=by
 unfold rawN;rw[if_pos (by rw[List.length_append];omega),List.take_left' h,List.drop_left' h]
theorem lnkN_full {l:List Nat} (h:l.length=32):lnkN l=l:=by
 unfold lnkN;rw[h];simp
theorem frontV {x:Vt} (ex:List Nat) (h:mayVo x=true) (hl:x.l.length=32):gotV (putV x++ex)=x∧okV9 (putV x++ex)=decide (endN ex false=0):=by
 obtain⟨h1,h2,h3,h4,h5⟩:=mayVo_h h;obtain⟨p,f,l,s⟩:=x
 dsimp only at h1 h2 h3 h4 h5 hl
 obtain⟨a,rfl⟩:=Int.eq_ofNat_of_zero_le h1;obtain⟨b,rfl⟩:=Int.eq_ofNat_of_zero_le h3;have hP:putV ⟨(a:Int),(b:Int),l,s⟩++ex=beN a 4++(beN b 1++(l++(txtN s++ex))):=by
  unfold putV;simp only[Int.toNat_natCast,List.append_assoc]
 have G1:v1 (putV ⟨(a:Int),(b:Int),l,s⟩++ex)=(a,beN b 1++(l++(txtN s++ex)),false):=by
  unfold v1;rw[hP,rNum_front a 4 _ false (by omega)]
 have G2:v2 (putV ⟨(a:Int),(b:Int),l,s⟩++ex)=(b,l++(txtN s++ex),false):=by
  unfold v2;rw[G1,rNum_front b 1 _ false (by omega)]
 have G3:v3 (putV ⟨(a:Int),(b:Int),l,s⟩++ex)=(l,txtN s++ex,false):=by
  unfold v3;rw[G2,rawN_front l _ false 32 hl]
 have G4:v4 (putV ⟨(a:Int),(b:Int),l,s⟩++ex)=(s,ex,false):=by
  unfold v4;rw[G3,rTxt_frontG s ex false 9000 h5 (by omega)]
 have hg:gotV (putV ⟨(a:Int),(b:Int),l,s⟩++ex)=⟨(a:Int),(b:Int),l,s⟩:=by
  unfold gotV;rw[G1,G2,G3,G4]
  dsimp only
  rw[lnkN_full hl]
 refine⟨hg,?_⟩;unfold okV9;rw[hg,G4,h,Bool.and_true]
theorem frontV_ok {x:Vt} (h:mayVo x=true) (hl:x.l.length=32):gotV (putV x)=x∧okV9 (putV x)=true:=by
 have:=frontV [] h hl;rw[List.append_nil] at this;exact⟨this.1,this.2.trans rfl⟩
structure Vv where
 p:Int
 f:Int
 l:List Nat
 A:Option Addr
 c:Nat
 s:List Nat
def vv (x:Vv):List Value:= .int .i64 x.p:: .int .i64 x.f::(u8s x.l++[.slice x.A x.s.length x.c])
def Vv.vt (x:Vv):Vt:=⟨x.p,x.f,x.l,x.s⟩
structure VvW (W:World) (x:Vv):Prop where
 ll:x.l.length=32
 lb:Bytes x.l
 s:Sr W x.A x.s
 sb:Bytes x.s
 sn:x.s.length≤1000000
theorem VvW.below {W W':World} {x:Vv} (h:VvW W x) (hb:Below W.heap.size W W'):VvW W' x:=⟨h.ll,h.lb,h.s.below hb,h.sb,h.sn⟩
theorem vv_len {x:Vv} (h:x.l.length=32):(vv x).length=35:=by simp[vv,u8s,h]
theorem vv_size {x:Vv} (h:x.l.length=32):(Tryz.prog.info? 33).map (·.size)=some (vv x).length:=by
 rw[vv_len h]
 kernel_rfl
theorem vv_one (x:Vv):(vv x).toArray.all (·.oneCell')=true:=by
 have h:=u8s_one x.l;rw[List.all_toArray] at h;simp only[vv,List.all_toArray,List.all_cons,List.all_append,List.all_nil,Bool.and_true];rw[h];rfl
theorem vv_cells {W:World} {g:Nat} {t:TypeId} {x:Vv} (h:Blk W g t (vv x)) (hl:x.l.length=32):W.cell? ⟨g,0,none⟩=some (.int .i64 x.p)∧W.cell? ⟨g,1,none⟩=some (.int .i64 x.f)∧W.cell? ⟨g,34,none⟩=some (.slice x.A x.s.length x.c):=by
 refine⟨h.cell 0,h.cell 1,?_⟩;have h34:=h.cell 34;rw[h34]
 show(u8s x.l++[Value.slice x.A x.s.length x.c])[32]? =_
 rw[List.getElem?_append_right (by rw[u8s_length,hl];exact Nat.le_refl _),u8s_length,hl];rfl
theorem vv_link {W:World} {g:Nat} {t:TypeId} {x:Vv} (h:Blk W g t (vv x)):Sr W (some ⟨g,2,none⟩) x.l:=λ_=>⟨g,2,rfl,h.lt,λj hj=>by
 have h34:=h.cell (2+j);rw[h34,show 2+j=j+1+1 by omega]
 show(u8s x.l++[Value.slice x.A x.s.length x.c])[j]? =_
 rw[List.getElem?_append_left (by rw[u8s_length];exact hj)];exact u8s_get _ _ hj⟩
structure VB (w0 W:World) (x:Vv):Prop where
 a:Blk W w0.heap.size 33 (vv x)
 rx:VvW W x
 bel:Below w0.heap.size w0 W
theorem VB.below {w0 W W':World} {x:Vv} (h:VB w0 W x) (hb:Below W.heap.size W W'):VB w0 W' x:=⟨h.a.below hb h.a.lt,h.rx.below hb,h.bel.trans (hb.mono h.bel.size)⟩
theorem VB.new {w:World} {x:Vv} (h:VvW w x):VB w (w.alloc (.cells (vv x).toArray 33)) x:=by
 have b1:=(Below.refl w.heap.size w).alloc (Nat.le_refl _) (.cells (vv x).toArray 33);exact⟨Blk.new w 33 (vv x),h.below b1,b1⟩
set_option maxHeartbeats 1000000 in
theorem vMayPut_t (x:Vv) (w:World) (h:VvW w x):
  Calls Tryz.prog 46 #[.agg (vv x).toArray] w λe w'=>e= .returned (.bool (mayVo x.vt))∧Below w.heap.size w w':=by
 have S0:=hid (VB.new h);have HM:=hid (show mayVo x.vt=((decide (0≤x.p) && decide (x.p≤1048576)) && ((decide (0≤x.f) && decide (x.f≤6)) && decide (x.s.length≤9000))) from rfl);obtain⟨r,hr⟩:∃ r,mayVo x.vt=r:=⟨_,rfl⟩;rw[hr] at HM ⊢;clear h hr
 go_enter Tryz.func46,Tryz.ntmps46
 go_upto_region 1 with(fail)
 refine world_at (λY=>VB w Y x) S0.out ?_
 rintro V s1
 have S1:=hid s1;clear s1 S0;obtain⟨c0,c1,c34⟩:=vv_cells S1.out.a S1.out.rx.ll
 by_cases p0:0≤x.p
 ·by_cases p1:x.p≤1048576
  ·by_cases f0:0≤x.f
   ·by_cases f1:x.f≤6
    ·by_cases s9:x.s.length≤9000
     ·have i9:(x.s.length:Int)≤9000:=by omega
      have hr:r=true:=by rw[HM.out,decide_eq_true p0,decide_eq_true p1,decide_eq_true f0,decide_eq_true f1,decide_eq_true s9];rfl
      go_wp2_with fail
      go_ret;subst hr;exact⟨rfl,S1.out.bel⟩
     ·have i9:¬ ((x.s.length:Int)≤9000):=by omega
      have hr:r=false:=by rw[HM.out,decide_eq_false s9,Bool.and_false,Bool.and_false]
      go_wp2_with fail
      go_ret;subst hr;exact⟨rfl,S1.out.bel⟩
    ·have hr:r=false:=by rw[HM.out,decide_eq_false f1,Bool.and_false,Bool.false_and,Bool.and_false]
     go_wp2_with fail
     go_ret;subst hr;exact⟨rfl,S1.out.bel⟩
   ·have hr:r=false:=by rw[HM.out,decide_eq_false f0,Bool.false_and,Bool.false_and,Bool.and_false]
    go_wp2_with fail
    go_ret;subst hr;exact⟨rfl,S1.out.bel⟩
  ·have hr:r=false:=by rw[HM.out,decide_eq_false p1,Bool.and_false,Bool.false_and]
   go_wp2_with fail
   go_ret;subst hr;exact⟨rfl,S1.out.bel⟩
 ·have hr:r=false:=by rw[HM.out,decide_eq_false p0,Bool.false_and,Bool.false_and]
  go_wp2_with fail
  go_ret;subst hr;exact⟨rfl,S1.out.bel⟩
theorem vWritten_t (F:FuncId) (C:Array Value) (l:List Nat) (w:World) (hcf:∀ args W,(callFunc F args).run Tryz.prog W= .ok (.enter F args) W) (hl:l.length≤70368744177664)
  (hcall:Calls Tryz.prog F (#[.pointer (some ⟨w.heap.size,0,none⟩)]++C) (w.alloc (.cells #[.pointer none,.int .i64 0] 119)) λe W'=>e= .returned (.tuple #[])∧Wr W' (λk=>w.heap.size≤k) w.heap.size l∧Below w.heap.size w W'):
  Calls Tryz.prog 39 #[.func (.func F) #[] C] w λe w'=>∃ u,e= .returned u∧Fresh 5 w w' u l:=by
 have HC:=hid hcall;have HL:=hid hl;clear hcall hl
 go_enter Tryz.func39,Tryz.ntmps39
 go_wp2_with fail
 refine HC.out.mono ?_
 rintro e w3 ⟨rfl,x3,b3⟩
 have X3:=hid x3;have B3:=hid b3;clear HC x3 b3;go_wp2_with fail
 refine(wbytes_t _ w.heap.size l w3 X3.out HL.out).mono ?_
 rintro e w9 ⟨v,rfl,fr⟩
 have FR:=hid (show Fresh 5 w w9 v l from⟨own_base fr.1 (λk hk=>Nat.le_trans B3.out.size (fr.1.lt k hk).1),B3.out.trans (fr.2.mono B3.out.size)⟩);clear fr X3;go_wp2_with fail
 go_ret;exact⟨v,rfl,FR.out⟩
structure QV (w0 w2 W:World) (x:Vv) (l:List Nat):Prop where
 wr:Wr W (λk=>w2.heap.size≤k) w2.heap.size l
 box:Blk W w0.heap.size 33 (vv x)
 lo:w0.heap.size<w2.heap.size
 r2:VvW w2 x
 b2:Below w2.heap.size w2 W
theorem QV.step {w0 w2 W W':World} {x:Vv} {l l':List Nat} (h:QV w0 w2 W x l) (hw:Wr W' (λk=>w2.heap.size≤k) w2.heap.size l') (hb:Below w2.heap.size W W'):QV w0 w2 W' x l':=
 ⟨hw,h.box.below hb h.lo,h.lo,h.r2,h.b2.trans hb⟩
set_option maxHeartbeats 1000000 in
theorem vPut1_t (x:Vv) (w0 w2 W:World) (h:QV w0 w2 W x []) (hm:mayVo x.vt=true):
  Calls Tryz.prog 47 #[.pointer (some ⟨w2.heap.size,0,none⟩),.pointer (some ⟨w0.heap.size,0,none⟩)] W λe W'=>e= .returned (.tuple #[])∧Wr W' (λk=>w2.heap.size≤k) w2.heap.size (putV x.vt)∧Below w2.heap.size w2 W':=by
 obtain⟨h1,h2,h3,h4,h5⟩:=mayVo_h hm;obtain⟨a,ha⟩:∃ a:Nat,x.p=(a:Int):=⟨x.p.toNat,by have h1:0≤x.p:=h1;omega⟩;obtain⟨b,hb⟩:∃ a:Nat,x.f=(a:Int):=⟨x.f.toNat,by have h3:0≤x.f:=h3;omega⟩;have a9:a≤1048576:=by have h2:x.p≤1048576:=h2;omega
 have b9:b≤6:=by have h4:x.f≤6:=h4;omega
 have S9:=hid (show x.s.length≤9000 from h5);have E:=hid (show putV x.vt=((beN a 4++beN b 1)++x.l)++txtN x.s from by
  show beN x.p.toNat 4++(beN x.f.toNat 1++(x.l++txtN x.s))=_
  rw[ha,hb];simp only[Int.toNat_natCast,List.append_assoc])
 obtain⟨xs,hxs⟩:∃ l,putV x.vt=l:=⟨_,rfl⟩;rw[hxs] at E ⊢;have RC:=hid (λ(W:World) (hb:Blk W w0.heap.size 33 (vv x))=>vv_cells hb h.r2.ll);rw[ha,hb] at RC;have LL:=hid h.r2.ll;have i1:IntKind.u64.wrap (a:Int)=(a:Int):=IntWalk.u64_in _ (by omega);have i2:IntKind.u64.wrap (b:Int)=(b:Int):=IntWalk.u64_in _ (by omega);have P0:=hid h;clear h hm h1 h2 h3 h4 h5 ha hb hxs
 go_enter Tryz.func47,Tryz.ntmps47
 obtain⟨c0,_,_⟩:=RC.out _ P0.out.box;go_wp2_with fail
 refine(num_s a 4 P0.out.wr (Below.refl _ _) P0.out.b2.size (by omega) (by decide) (by decide) (by simp)).mono ?_
 rintro e w3 ⟨rfl,x2,b2⟩
 have P3:=hid (P0.out.step x2 b2);clear x2 b2 P0;rw[List.nil_append] at P3;clear c0;obtain⟨_,c1,_⟩:=RC.out _ P3.out.box;go_wp2_with fail
 refine(num_s b 1 P3.out.wr (Below.refl _ _) P3.out.b2.size (by omega) (by decide) (by decide) (by rw[beN_length];omega)).mono ?_
 rintro e w4 ⟨rfl,x2,b2⟩
 have P4:=hid (P3.out.step x2 b2);clear x2 b2 P3;clear c1 i1 i2;have SL:=hid (vv_link P4.out.box);have RW_:=hid (raw_s x.l (some ⟨w0.heap.size,2,none⟩) 32 32 P4.out.wr (Below.refl _ _) P4.out.b2.size LL.out SL.out (by simp only[List.length_append,beN_length];omega));go_wp2_with fail
 refine RW_.out.mono ?_
 rintro e w5 ⟨rfl,x5,b5⟩
 have P5:=hid (P4.out.step x5 b5);clear x5 b5 RW_ SL P4;obtain⟨_,_,c34⟩:=RC.out _ P5.out.box;have TX:=hid (text_s x.s x.A x.s.length x.c P5.out.wr (Below.refl _ _) P5.out.b2.size rfl (P5.out.r2.s.below P5.out.b2) (λhx a ha=> .inl (P5.out.r2.s.lt hx a ha)) (by simp only[List.length_append,beN_length,LL.out];have:=S9.out;omega));go_wp2_with fail
 refine TX.out.mono ?_
 rintro e w6 ⟨rfl,x6,b6⟩
 have P6:=hid (P5.out.step x6 b6);rw[←E.out] at P6;clear x6 b6 TX P5 c34;go_wp2_with fail
 go_end0
 exact⟨rfl,P6.out.wr,P6.out.b2⟩
theorem putV_le {x:Vt} (hl:x.l.length=32):(putV x).length=41+x.s.length:=by
 unfold putV txtN;simp only[List.length_append,beN_length,hl];omega
def erV (x:Vv):Int:=if mayVo x.vt then 0 else 1
def byV (x:Vv):List Nat:=if mayVo x.vt then putV x.vt else[]
set_option maxHeartbeats 1000000 in
theorem vPut_t (x:Vv) (w:World) (h:VvW w x):
  Calls Tryz.prog 22 #[.agg (vv x).toArray] w λe w'=>∃ u,e= .returned (.tuple #[u,.int .i64 (erV x)])∧Fresh 5 w w' u (byV x):=by
 have S0:=hid (VB.new h);have FG:=hid (vv_size h.ll);unfold erV byV;obtain⟨mb,hmb⟩:∃ b,mayVo x.vt=b:=⟨_,rfl⟩;have HM:=hid hmb;rw[hmb];clear h hmb;have hmf:∀ (fn:Fn) (first cap:Array Value) (w:World),(Instr.makeFunc fn first cap).run Tryz.prog w= .ok (.func fn first cap) w:=λ_ _ _ _=>rfl
 go_enter Tryz.func22,Tryz.ntmps22
 go_upto_region 1 with(fail)
 refine world_at (λY=>VB w Y x) S0.out ?_
 rintro V s1
 have S1:=hid s1;clear s1 S0;have MT:=hid (vMayPut_t x V S1.out.rx);rw[HM.out] at MT;have GA:=hid S1.out.a
 go_wp2_with ((with_reducible refine load_blk 33 (.tmp 1) w.heap.size 33 (vv x) _ rfl rfl ?_ Tryz.underlying33 ?_ ?_ ?_ ?_);exact GA.out;exact rfl;exact FG.out;exact rfl)
 refine MT.out.mono ?_
 rintro e w1 ⟨rfl,b1⟩
 have S2:=hid (S1.out.below b1);clear S1 MT b1 GA
 cases mb with
 |false=>
  go_wp2_with fail
  go_ret2;exact⟨.slice none 0 0,rfl,nil_own _ _,S2.out.bel⟩
 |true=>
  have CALL:=hid (vPut1_t x w w1 _ ⟨Wr.new,(S2.out.a).alloc _,S2.out.a.lt,S2.out.rx,(Below.refl _ _).alloc (Nat.le_refl _) _⟩ HM.out);have HLE:=hid (show(putV x.vt).length≤70368744177664 from by
   have h1:=(mayVo_h HM.out).2.2.2.2;rw[putV_le S2.out.rx.ll];have h1:x.s.length≤9000:=h1
   show 41+x.s.length≤_
   omega)
  have WT:=hid (vWritten_t 47 #[.pointer (some ⟨w.heap.size,0,none⟩)] (putV x.vt) w1 (enters_of Tryz.func47 (by kernel_rfl) rfl) HLE.out CALL.out);clear CALL HLE;go_wp2_with fail
  refine WT.out.mono ?_
  rintro e w2 ⟨u,rfl,fr⟩
  have FR:=hid (show Fresh 5 w w2 u (putV x.vt) from⟨own_base fr.1 (λk hk=>Nat.le_trans S2.out.bel.size (fr.1.lt k hk).1),S2.out.bel.trans (fr.2.mono S2.out.bel.size)⟩);clear fr WT S2;go_wp2_with fail
  go_ret2;exact⟨u,rfl,FR.out⟩
def textV (a:List Nat) (q:Nat) (l:List Nat):List Nat:=(([86,79,84,69]++a)++beN q 4)++l
structure QT (w0 w2 W:World) (a:List Nat) (q:Nat) (l:List Nat) (ls:List Nat):Prop where
 wr:Wr W (λk=>w2.heap.size≤k) w2.heap.size ls
 ba:Blk W w0.heap.size 23 (u8s a)
 bp:Blk W (w0.heap.size+1) 3 [.int .i64 (q:Int)]
 bl:Blk W (w0.heap.size+2) 23 (u8s l)
 lo:w0.heap.size+2<w2.heap.size
 b2:Below w2.heap.size w2 W
theorem QT.step {w0 w2 W W':World} {a l ls ls':List Nat} {q:Nat} (h:QT w0 w2 W a q l ls) (hw:Wr W' (λk=>w2.heap.size≤k) w2.heap.size ls') (hb:Below w2.heap.size W W'):QT w0 w2 W' a q l ls':=by
 have:=h.lo;exact⟨hw,h.ba.below hb (by omega),h.bp.below hb (by omega),h.bl.below hb (by omega),h.lo,h.b2.trans hb⟩
theorem sr_blkV {w:World} {g:Nat} {t:TypeId} {xs:List Nat} (h:Blk w g t (u8s xs)):Sr w (some ⟨g,0,none⟩) xs:=λ_=>⟨g,0,rfl,h.lt,λj hj=>by rw[Nat.zero_add,h.cell];exact u8s_get _ _ hj⟩
set_option maxHeartbeats 1000000 in
theorem vText1_t (a l:List Nat) (q:Nat) (w0 w2 W:World) (h:QT w0 w2 W a q l []) (ha:a.length=32) (hl:l.length=32) (hq:q≤1048576):
  Calls Tryz.prog 40 #[.pointer (some ⟨w2.heap.size,0,none⟩),.pointer (some ⟨w0.heap.size,0,none⟩),.pointer (some ⟨w0.heap.size+1,0,none⟩),.pointer (some ⟨w0.heap.size+2,0,none⟩)] W λe W'=>e= .returned (.tuple #[])∧Wr W' (λk=>w2.heap.size≤k) w2.heap.size (textV a q l)∧Below w2.heap.size w2 W':=by
 have i1:IntKind.u64.wrap (q:Int)=(q:Int):=IntWalk.u64_in _ (by omega);have P0:=hid h;have SM:=hid (Sr.made [86,79,84,69] W 5 (4,5));have BA:=hid ((Below.refl W.heap.size W).alloc (Nat.le_refl _) (.cells (u8s [86,79,84,69]).toArray 5 (4,5)));clear h
 go_enter Tryz.func40,Tryz.ntmps40
 have kc:=λ(w:World) (C:Array Value) (n c:Nat)=>Lib.run_convert_bytes_const (P:=Tryz.prog) w 25 5 C n c Tryz.underlying25 Tryz.underlying5
 have RW_:=hid (raw_s [86,79,84,69] (some ⟨W.heap.size,0,none⟩) 4 4 P0.out.wr BA.out P0.out.b2.size rfl SM.out (by simp));go_wp2_with fail
 clear kc;refine RW_.out.mono ?_
 rintro e w3 ⟨rfl,x3,b3⟩
 rw[List.nil_append] at x3;have P3:=hid (P0.out.step x3 ((BA.out.mono P0.out.b2.size).trans b3));clear x3 b3 RW_ SM BA P0;have SA:=hid (sr_blkV P3.out.ba);have RW_:=hid (raw_s a (some ⟨w0.heap.size,0,none⟩) 32 32 P3.out.wr (Below.refl _ _) P3.out.b2.size ha SA.out (by simp));go_wp2_with fail
 refine RW_.out.mono ?_
 rintro e w4 ⟨rfl,x4,b4⟩
 have P4:=hid (P3.out.step x4 b4);clear x4 b4 RW_ SA P3;have c1:w4.cell? ⟨w0.heap.size+1,0,none⟩=some (.int .i64 (q:Int)):=P4.out.bp.cell 0;go_wp2_with fail
 refine(num_s q 4 P4.out.wr (Below.refl _ _) P4.out.b2.size (by omega) (by decide) (by decide) (by simp only[List.length_append,ha,List.length_cons,List.length_nil];omega)).mono ?_
 rintro e w5 ⟨rfl,x5,b5⟩
 have P5:=hid (P4.out.step x5 b5);clear x5 b5 P4 c1 i1;have SL:=hid (sr_blkV P5.out.bl);have RW_:=hid (raw_s l (some ⟨w0.heap.size+2,0,none⟩) 32 32 P5.out.wr (Below.refl _ _) P5.out.b2.size hl SL.out (by simp only[List.length_append,ha,beN_length,List.length_cons,List.length_nil];omega));go_wp2_with fail
 refine RW_.out.mono ?_
 rintro e w6 ⟨rfl,x6,b6⟩
 have P6:=hid (P5.out.step x6 b6);clear x6 b6 RW_ SL P5;go_wp2_with fail
 go_end0
 exact⟨rfl,P6.out.wr,P6.out.b2⟩
theorem textV_len {a l:List Nat} {q:Nat} (ha:a.length=32) (hl:l.length=32):(textV a q l).length=72:=by
 unfold textV;simp only[List.length_append,beN_length,ha,hl,List.length_cons,List.length_nil]
theorem new3V (w:World) (o1 o2:Obj) (t:TypeId) (cs:List Value):Blk (((w.alloc o1).alloc o2).alloc (.cells cs.toArray t)) (w.heap.size+2) t cs:=by
 have h:=Blk.new2 (w.alloc o1) o2 t cs
 simpa using h
set_option maxHeartbeats 1000000 in
theorem vText_t (a l:List Nat) (q:Nat) (w:World) (ha:a.length=32) (hl:l.length=32) (hq:q≤1048576):
  Calls Tryz.prog 19 #[.agg (u8s a).toArray,.int .i64 (q:Int),.agg (u8s l).toArray] w λe w'=>∃ u,e= .returned u∧Fresh 5 w w' u (textV a q l):=by
 obtain⟨V,hV⟩:∃ V,((w.alloc (.cells (u8s a).toArray 23)).alloc (.cells #[.int .i64 (q:Int)] 3)).alloc (.cells (u8s l).toArray 23)=V:=⟨_,rfl⟩;have B0:=hid (show Below w.heap.size w V from by rw[←hV];exact(((Below.refl _ _).alloc (Nat.le_refl _) _).alloc (by simp) _).alloc (by simp;omega) _);have VS:=hid (show w.heap.size+2<V.heap.size from by rw[←hV];simp);have BL:=hid (show Blk V w.heap.size 23 (u8s a)∧Blk V (w.heap.size+1) 3 [.int .i64 (q:Int)]∧Blk V (w.heap.size+2) 23 (u8s l) from by
  rw[←hV];exact⟨((Blk.new w 23 (u8s a)).alloc _).alloc _,(Blk.new2 w _ 3 [.int .i64 (q:Int)]).alloc _,new3V w _ _ _ _⟩)
 have CALL:=hid (vText1_t a l q w V _ ⟨Wr.new,BL.out.1.alloc _,BL.out.2.1.alloc _,BL.out.2.2.alloc _,VS.out,(Below.refl _ _).alloc (Nat.le_refl _) _⟩ ha hl hq);have WT:=hid (vWritten_t 40 #[.pointer (some ⟨w.heap.size,0,none⟩),.pointer (some ⟨w.heap.size+1,0,none⟩),.pointer (some ⟨w.heap.size+2,0,none⟩)] (textV a q l) V (enters_of Tryz.func40 (by kernel_rfl) rfl) (by rw[textV_len ha hl];omega) CALL.out);have hmf:∀ (fn:Fn) (first cap:Array Value) (w:World),(Instr.makeFunc fn first cap).run Tryz.prog w= .ok (.func fn first cap) w:=λ_ _ _ _=>rfl
 clear CALL BL VS
 go_enter Tryz.func19,Tryz.ntmps19
 go_wp2_with fail
 clear hV;refine WT.out.mono ?_
 rintro e w2 ⟨u,rfl,fr⟩
 have FR:=hid (show Fresh 5 w w2 u (textV a q l) from⟨own_base fr.1 (λk hk=>Nat.le_trans B0.out.size (fr.1.lt k hk).1),B0.out.trans (fr.2.mono B0.out.size)⟩);clear fr WT;go_wp2_with fail
 go_ret;exact⟨u,rfl,FR.out⟩
theorem load_mid_gdV {P:Program} {ops:Array Oper} {rest:List Oper} {o:Oper} {a:Act} {w:World} {Q:Exit→Act→World→Prop} (D:Nat) (ty:TypeId) (x:Operand) (b off:Nat) (cs:List Value) (d:TypeDesc)
  (_hD:o.dst=some D) (hw:Region.wanted o (yielded ops a.tmps)=true) (ho:o.op= .load ty x) (hc:w.rangeAt b off cs) (hu:P.underlying ty=some d) (hd:d.isRow=true) (hi:(P.info? ty).map (·.size)=some cs.length)
  (hx:a.eval x= .pointer (some ⟨b,off,none⟩)) (h:wpList P ops Q rest (a.put o.dst (.agg cs.toArray)) w):wpList P ops Q (o::rest) a w:=
 BigFrame.wpList_want hw λ_ hK=>wp_load_mid ty x ho b off hx cs d hc hu hd hi (hK _ _ h)
def sameV (x y:Vt):Bool:=(x.p == y.p) && ((x.f == y.f) && (decide (x.l=y.l) && decide (x.s=y.s)))
theorem sameV_iff {x y:Vt} :sameV x y=true↔x=y:=by
 obtain⟨a1,a2,a3,a4⟩:=x;obtain⟨b1,b2,b3,b4⟩:=y;simp only[sameV,Bool.and_eq_true,beq_iff_eq,decide_eq_true_eq,Vt.mk.injEq]
structure VS (w0 W:World) (x y:Vv):Prop where
 a:Blk W w0.heap.size 33 (vv x)
 b:Blk W (w0.heap.size+1) 33 (vv y)
 rx:VvW W x
 ry:VvW W y
 bel:Below w0.heap.size w0 W
theorem VS.new {w:World} {x y:Vv} (hx:VvW w x) (hy:VvW w y):VS w ((w.alloc (.cells (vv x).toArray 33)).alloc (.cells (vv y).toArray 33)) x y:=by
 have b0:Below w.heap.size w ((w.alloc (.cells (vv x).toArray 33)).alloc (.cells (vv y).toArray 33)):=((Below.refl _ _).alloc (Nat.le_refl _) _).alloc (by simp) _;exact⟨(Blk.new w 33 (vv x)).alloc _,Blk.new2 w _ 33 (vv y),hx.below b0,hy.below b0,b0⟩
theorem vv_range {W:World} {g:Nat} {t:TypeId} {x:Vv} (h:Blk W g t (vv x)):W.rangeAt g 2 (u8s x.l):=λj v hv=>by
 have h34:=h.cell (2+j);rw[h34,show 2+j=j+1+1 by omega]
 show(u8s x.l++[Value.slice x.A x.s.length x.c])[j]? =_
 rw[List.getElem?_append_left (List.getElem?_eq_some_iff.1 hv).1];exact hv
set_option maxHeartbeats 1000000 in
theorem vSame_t (x y:Vv) (w:World) (hx:VvW w x) (hy:VvW w y):
  Calls Tryz.prog 11 #[.agg (vv x).toArray,.agg (vv y).toArray] w λe w'=>e= .returned (.bool (sameV x.vt y.vt))∧Below w.heap.size w w':=by
 have S0:=hid (VS.new hx hy);have HM:=hid (show sameV x.vt y.vt=((x.p == y.p) && ((x.f == y.f) && (decide (x.l=y.l) && decide (x.s=y.s)))) from rfl);obtain⟨r,hr⟩:∃ r,sameV x.vt y.vt=r:=⟨_,rfl⟩;rw[hr] at HM ⊢;clear hx hy hr
 go_enter Tryz.func11,Tryz.ntmps11
 go_upto_region 1 with(fail)
 refine world_at (λY=>VS w Y x y) S0.out ?_
 rintro V s1
 have S1:=hid s1;clear s1 S0;obtain⟨c0,c1,c34⟩:=vv_cells S1.out.a S1.out.rx.ll;obtain⟨d0,d1,d34⟩:=vv_cells S1.out.b S1.out.ry.ll
 by_cases p0:x.p=y.p
 ·have ep:(x.p == y.p)=true:=by rw[p0];exact beq_self_eq_true _
  by_cases f0:x.f=y.f
  ·have ef:(x.f == y.f)=true:=by rw[f0];exact beq_self_eq_true _
   have RX:=hid (vv_range S1.out.a);have RY:=hid (vv_range S1.out.b);have ZX:=hid (hash_size x.l S1.out.rx.ll);have ZY:=hid (hash_size y.l S1.out.ry.ll);have el:=eqIn_u8sS 9998 23 32 Tryz.underlying23 x.l y.l S1.out.rx.ll S1.out.ry.ll
   by_cases l0:x.l=y.l
   ·rw[decide_eq_true l0] at el;have BE:=hid (bEqual_t x.s y.s x.A y.A x.s.length y.s.length x.c y.c V rfl rfl S1.out.rx.s S1.out.ry.s S1.out.rx.sb S1.out.ry.sb);obtain⟨sb,hsb⟩:∃ b,decide (x.s=y.s)=b:=⟨_,rfl⟩;rw[hsb] at BE HM;have hr:r=sb:=by rw[HM.out,ep,ef,decide_eq_true l0];rfl
    clear hsb HM l0
    go_wp2_with (first
     |((with_reducible refine load_mid_gdV 19 23 (.tmp 18) w.heap.size 2 (u8s x.l) _ ?_ ?_ rfl ?_ Tryz.underlying23 ?_ ?_ ?_ ?_);exact rfl;kernel_rfl;exact RX.out;exact rfl;exact ZX.out;exact rfl)
     |((with_reducible refine load_mid_gdV 21 23 (.tmp 20) (w.heap.size+1) 2 (u8s y.l) _ ?_ ?_ rfl ?_ Tryz.underlying23 ?_ ?_ ?_ ?_);exact rfl;kernel_rfl;exact RY.out;exact rfl;exact ZY.out;exact rfl))
    refine BE.out.mono ?_
    rintro e w2 ⟨rfl,rfl⟩
    go_wp2_with fail
    go_ret;subst hr;exact⟨rfl,S1.out.bel⟩
   ·rw[decide_eq_false l0] at el;have hr:r=false:=by rw[HM.out,decide_eq_false l0,Bool.false_and,Bool.and_false,Bool.and_false]
    clear HM l0
    go_wp2_with (first
     |((with_reducible refine load_mid_gdV 19 23 (.tmp 18) w.heap.size 2 (u8s x.l) _ ?_ ?_ rfl ?_ Tryz.underlying23 ?_ ?_ ?_ ?_);exact rfl;kernel_rfl;exact RX.out;exact rfl;exact ZX.out;exact rfl)
     |((with_reducible refine load_mid_gdV 21 23 (.tmp 20) (w.heap.size+1) 2 (u8s y.l) _ ?_ ?_ rfl ?_ Tryz.underlying23 ?_ ?_ ?_ ?_);exact rfl;kernel_rfl;exact RY.out;exact rfl;exact ZY.out;exact rfl))
    go_ret;subst hr;exact⟨rfl,S1.out.bel⟩
  ·have ef:(x.f == y.f)=false:=by rw[beq_eq_false_iff_ne];exact f0
   have hr:r=false:=by rw[HM.out,ef,Bool.false_and,Bool.and_false]
   go_wp2_with fail
   go_ret;subst hr;exact⟨rfl,S1.out.bel⟩
 ·have ep:(x.p == y.p)=false:=by rw[beq_eq_false_iff_ne];exact p0
  have hr:r=false:=by rw[HM.out,ep,Bool.false_and]
  go_wp2_with fail
  go_ret;subst hr;exact⟨rfl,S1.out.bel⟩
end Go.Proofs.YtjlophplcmidlaaGreatDoor
