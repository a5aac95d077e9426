/-
  THE REFERENCE OF CHAPTER 9
-/
import Derived.Test.YtlipjglehongeaaGreatDoorGb27
import Derived.Test.YtlipjglehongeaaGreatDoorGb16
import Derived.Test.YtlipjglehongeaaGreatDoorGb29
import Derived.Test.YtlipjglehongeaaGreatDoorTk
open Go.Lib (hid)
set_option maxRecDepth 100000
namespace Go.Proofs.YtlipjglehongeaaGreatDoor
open Go Go.RowKit Sh
def oH (s:Sp):List Nat:=beN s.now.toNat 8++(beN s.rd.toNat 1++(beN s.wr.toNat 1++beN s.its.length 1))
def oI (s:Sp) (k:Nat):List Nat:=oH s++(s.its.take k).flatMap putI
def oV (s:Sp):List Nat:=oI s s.its.length++beN s.wts.length 1
def oW (s:Sp) (k:Nat):List Nat:=oV s++(s.wts.take k).flatMap putW
def oL (s:Sp) (k:Nat):List Nat:=oW s s.wts.length++(s.last.take k).flatMap putL
theorem flat_take {α:Type} {f:α→List Nat} {l:List α} {k:Nat} {y:α} (h:l[k]? =some y):(l.take (k+1)).flatMap f=(l.take k).flatMap f++f y:=by
 obtain⟨hk,rfl⟩:=List.getElem?_eq_some_iff.1 h;rw[List.take_succ_eq_append_getElem hk,List.flatMap_append,List.flatMap_cons,List.flatMap_nil,List.append_nil]
theorem flat_take_le {α:Type} (f:α→List Nat) (l:List α) (k:Nat):((l.take k).flatMap f).length≤(l.flatMap f).length:=by
 conv=>rhs;rw[←List.take_append_drop k l,List.flatMap_append,List.length_append]
 omega
theorem oI_succ {s:Sp} {k:Nat} {y:It} (h:s.its[k]? =some y):oI s (k+1)=oI s k++putI y:=by unfold oI;rw[flat_take h,List.append_assoc]
theorem oW_succ {s:Sp} {k:Nat} {y:Wt} (h:s.wts[k]? =some y):oW s (k+1)=oW s k++putW y:=by unfold oW;rw[flat_take h,List.append_assoc]
theorem oL_succ {s:Sp} {k:Nat} {y:Rp} (h:s.last[k]? =some y):oL s (k+1)=oL s k++putL y:=by unfold oL;rw[flat_take h,List.append_assoc]
theorem putS_oL {s:Sp} (h4:s.last.length=4):oL s 4=putS s:=by
 unfold oL oW oV oI oH putS;rw[List.take_of_length_le (Nat.le_refl _),List.take_of_length_le (Nat.le_refl _),List.take_of_length_le (Nat.le_of_eq h4)];simp only[List.append_assoc]
theorem o_le {s:Sp} (h4:s.last.length=4):(∀ k,(oI s k).length≤(putS s).length)∧(oV s).length≤(putS s).length∧(∀ k,(oW s k).length≤(putS s).length)∧(∀ k,(oL s k).length≤(putS s).length):=by
 have hl:∀ k,(oL s k).length≤(putS s).length:=λk=>by
  rw[←putS_oL h4];unfold oL;have h1:=flat_take_le putL s.last k;rw[List.length_append,List.length_append,List.take_of_length_le (Nat.le_of_eq h4)];omega
 have hw:∀ k,(oW s k).length≤(putS s).length:=λk=>by
  refine Nat.le_trans ?_ (hl 0);unfold oL oW;have h1:=flat_take_le putW s.wts k;simp only[List.length_append,List.take_of_length_le (Nat.le_refl _)];omega
 have hv:(oV s).length≤(putS s).length:=by
  refine Nat.le_trans ?_ (hw 0);unfold oW;simp
 refine⟨λk=>?_,hv,hw,hl⟩;refine Nat.le_trans ?_ hv;unfold oV oI;have h1:=flat_take_le putI s.its k;simp only[List.length_append,List.take_of_length_le (Nat.le_refl _)];omega
structure PB9 (w0 W:World) (x:Spv) (g3:Nat) (t:TypeId) (cs:List Value):Prop where
 sb:SB w0 W x
 el:Blk W g3 t cs
theorem PB9.below {w0 W W':World} {x:Spv} {g3:Nat} {t:TypeId} {cs:List Value} (h:PB9 w0 W x g3 t cs) (hb:Below W.heap.size W W'):PB9 w0 W' x g3 t cs:=⟨h.sb.below hb,h.el.below hb h.el.lt⟩
theorem PB9.bel {w0 W:World} {x:Spv} {g3:Nat} {t:TypeId} {cs:List Value} (h:PB9 w0 W x g3 t cs):Below w0.heap.size w0 W:=h.sb.bel
theorem bit_eq (b:Bool):[if b then 1 else 0]=beN (flagN b) 1:=(beN_k1 (flagN b) (by unfold flagN;split<;>decide)).symm
theorem toNat_of {a:Nat} {z:Int} (h:z=(a:Int)):z.toNat=a:=by rw[h];rfl
theorem nat_of {z:Int} (h:0≤z):∃ a:Nat,z=(a:Int):=⟨z.toNat,by omega⟩
theorem pC_open {w W:World} {v:Value} {l:List Nat} (h:PC w W v l):∃ A c,v= .slice A l.length c∧Sr W A l:=by
 have ho:=h.own;obtain⟨A,c,rfl,_⟩:=own_form ho;exact⟨A,c,rfl,Sr.of_own ho⟩
set_option maxHeartbeats 4000000 in
theorem refPutS_t (x:Spv) (w:World) (h:SpW w x) (hm:spMay x.sp=true):
  Calls Tryz.prog 30 #[.agg (sv x).toArray] w λe w'=>∃ u,e= .returned u∧Fresh 5 w w' u (putS x.sp):=by
 have mw:=spMay_w hm;have h4:x.sp.last.length=4:=by show(x.last.map (·.r)).length=4;rw[List.length_map];exact h.l4
 have OLE:=hid (o_le h4);have PLE:=hid (putS_le hm h4);have OPE:=hid (putS_oL h4);have MW:=hid mw;obtain⟨aLa,bLa,cLa,dLa,las⟩:=las_h h4 mw.la;have RPB:=hid (show ∀ y∈x.sp.last,rpB y=true from λy hy=>by
  rw[las.e] at hy;simp only[List.mem_cons,List.not_mem_nil,or_false] at hy;rcases hy with rfl |rfl |rfl |rfl
  ·exact las.ar
  ·exact las.br
  ·exact las.cr
  ·exact las.dr)
 obtain⟨a,ha⟩:=nat_of (show 0≤x.now from mw.n0);obtain⟨b,hb⟩:=nat_of (show 0≤x.rd from mw.r0);obtain⟨d,hd⟩:=nat_of (show 0≤x.wr from mw.w0);have a1:a≤1099511627776:=by have:x.now≤1099511627776:=mw.n1;omega
 have b1:b≤15:=by have:x.rd≤15:=mw.r1;omega
 have d1:d≤15:=by have:x.wr≤15:=mw.w1;omega
 have hil:x.its.length≤64:=by have:=mw.il;simp only[Spv.sp,List.length_map] at this;exact this
 have hwl:x.wts.length≤16:=by have:=mw.wl;simp only[Spv.sp,List.length_map] at this;exact this
 obtain⟨n,hn⟩:∃ n,x.its.length=n:=⟨_,rfl⟩;obtain⟨m,hwn⟩:∃ n,x.wts.length=n:=⟨_,rfl⟩;have HI:=hid hn;have HW:=hid hwn;have n6:n≤64:=by omega
 have m6:m≤16:=by omega
 have S0:=hid (SB.new h);have EH:=hid (show oH x.sp=beN a 8++(beN b 1++(beN d 1++beN n 1)) from by
  unfold oH;rw[show x.sp.now.toNat=a from toNat_of ha,show x.sp.rd.toNat=b from toNat_of hb,show x.sp.wr.toNat=d from toNat_of hd,show x.sp.its.length=n by simp only[Spv.sp,List.length_map];exact hn])
 have CELL:=hid (λ(W:World) (h:SB w W x)=>show W.cell? ⟨w.heap.size,0,none⟩=some (.int .i64 (a:Int))∧W.cell? ⟨w.heap.size,1,none⟩=some (.slice x.ip n x.ic)∧W.cell? ⟨w.heap.size,2,none⟩=some (.slice x.wp m x.wc)∧W.cell? ⟨w.heap.size,3,none⟩=some (.int .i64 (b:Int))∧W.cell? ⟨w.heap.size,4,none⟩=some (.int .i64 (d:Int)) from by
  have:=sv_cells h.a;rw[ha,hb,hd,hn,hwn] at this;exact this)
 have i1:IntKind.u64.wrap (a:Int)=(a:Int):=IntWalk.u64_in _ (by omega);have i2:IntKind.u64.wrap (b:Int)=(b:Int):=IntWalk.u64_in _ (by omega);have i3:IntKind.u64.wrap (d:Int)=(d:Int):=IntWalk.u64_in _ (by omega);have i4:IntKind.u64.wrap (n:Int)=(n:Int):=IntWalk.u64_in _ (by omega);clear h hm mw h4 las ha hb hd hil hwl hn hwn
 go_enter Tryz.func30,Tryz.ntmps30
 go_upto_region 1 with(fail)
 refine wp_region_held (S:=λW=>W.cell? ⟨w.heap.size,0,none⟩=some (.int .i64 (a:Int))∧W.cell? ⟨w.heap.size,1,none⟩=some (.slice x.ip n x.ic)∧W.cell? ⟨w.heap.size,2,none⟩=some (.slice x.wp m x.wc)∧W.cell? ⟨w.heap.size,3,none⟩=some (.int .i64 (b:Int))∧W.cell? ⟨w.heap.size,4,none⟩=some (.int .i64 (d:Int))) (by kernel_rfl) ?_;change wpAnyH _ _ _ _ _ _ _ _ (w.alloc (.cells (sv x).toArray 46)).drew;obtain⟨U,hU⟩:∃ U,(w.alloc (.cells (sv x).toArray 46)).drew=U:=⟨_,rfl⟩;have Z0:=hid (show SB w U x from S0.out.below (by rw[←hU];exact(Below.refl _ _).drew));rw[hU];clear hU S0;have r0:=CELL.out _ Z0.out;refine tka9 0 r0 ?_;refine tka9 4 r0 ?_;refine tka9 8 r0 ?_;refine tka9 12 r0 ?_;refine tk9 1 ?_ ?_ r0 ?_;rotate_left 1
 ·(intro w hS;have hs:=hS.1;clear hS;go_simp;try (with_reducible rfl))
 refine tk9 5 ?_ ?_ r0 ?_;rotate_left 1
 ·(intro w hS;have hs:=hS.2.2.2.1;clear hS;go_simp;try (with_reducible rfl))
 refine tk9 9 ?_ ?_ r0 ?_;rotate_left 1
 ·(intro w hS;have hs:=hS.2.2.2.2;clear hS;go_simp;try (with_reducible rfl))
 refine tk9 13 ?_ ?_ r0 ?_;rotate_left 1
 ·(intro w hS;have hs:=hS.2.1;clear hS;go_simp;try (with_reducible rfl))
 refine tka9 2 r0 ?_;refine tka9 6 r0 ?_;refine tka9 10 r0 ?_;refine tka9 14 r0 ?_;refine tka9 15 r0 ?_;have X0:=hid (show Six U [] from λx hx=>absurd hx List.not_mem_nil);refine rd9 3 λK hK=>?_
 go_simp;refine(refnum_t a 8 U (by decide) (by decide)).mono ?_
 rintro e w3 ⟨u,rfl,fr⟩
 obtain⟨A3,k3,rfl,_,sr,bb⟩:=fresh_opO fr;have Z3:=hid (Z0.out.below bb);have X3:=hid ((X0.out.below bb).snoc (c:=k3) sr);have r3:=CELL.out _ Z3.out;clear fr sr bb;refine hK.out _ _ r3 (λ_=>?_);clear hK K Z0 X0;refine rd9 7 λK hK=>?_
 go_simp;refine(refnum_t b 1 w3 (by decide) (by decide)).mono ?_
 rintro e w7 ⟨u,rfl,fr⟩
 obtain⟨A7,k7,rfl,_,sr,bb⟩:=fresh_opO fr;have Z7:=hid (Z3.out.below bb);have X7:=hid ((X3.out.below bb).snoc (c:=k7) sr);have r7:=CELL.out _ Z7.out;clear fr sr bb;refine hK.out _ _ r7 (λ_=>?_);clear hK K Z3 X3;refine rd9 11 λK hK=>?_
 go_simp;refine(refnum_t d 1 w7 (by decide) (by decide)).mono ?_
 rintro e w11 ⟨u,rfl,fr⟩
 obtain⟨A11,k11,rfl,_,sr,bb⟩:=fresh_opO fr;have Z11:=hid (Z7.out.below bb);have X11:=hid ((X7.out.below bb).snoc (c:=k11) sr);have r11:=CELL.out _ Z11.out;clear fr sr bb;refine hK.out _ _ r11 (λ_=>?_);clear hK K Z7 X7;refine rd9 16 λK hK=>?_
 go_simp;refine(refnum_t n 1 w11 (by decide) (by decide)).mono ?_
 rintro e w16 ⟨u,rfl,fr⟩
 obtain⟨A16,k16,rfl,_,sr,bb⟩:=fresh_opO fr;have Z16:=hid (Z11.out.below bb);have X16:=hid ((X11.out.below bb).snoc (c:=k16) sr);have r16:=CELL.out _ Z16.out;clear fr sr bb;refine hK.out _ _ r16 (λ_=>?_);clear hK K Z11 X11;obtain⟨lp,hlp⟩:∃ l:List PartO,((([]++[⟨A3,k3,beN a 8⟩])++[⟨A7,k7,beN b 1⟩])++[⟨A11,k11,beN d 1⟩])++[⟨A16,k16,beN n 1⟩]=l:=⟨_,rfl⟩;rw[hlp] at X16;have LL:=hid (show lp.length=4 by rw[←hlp];rfl);have PL:=hid (show partsO lp=[.slice A3 (beN a 8).length k3,.slice A7 (beN b 1).length k7,.slice A11 (beN d 1).length k11,.slice A16 (beN n 1).length k16] by rw[←hlp];rfl);have EL:=hid (show catO lp=oI x.sp 0 by rw[←hlp];show _=oH x.sp++[];rw[List.append_nil,EH.out];simp[catO]);have LE:=hid (show(oI x.sp 0).length≤1000000 from by have:=OLE.out.1 0;have:=PLE.out;omega);clear hlp;have bz:Below w16.heap.size w16 (w16.alloc (.cells (partsO lp).toArray 23)):=(Below.refl _ _).alloc (Nat.le_refl _) _;have ZZ:=hid (Z16.out.below bz);have XX:=hid (X16.out.below bz);have BB:=hid (Blk.new w16 23 (partsO lp));have rz:=CELL.out _ ZZ.out;clear bz Z16 X16;refine rd9 17 λK hK=>?_
 go_simp;rw[PL.out] at ZZ XX BB rz;refine hK.out _ _ rz (λ_=>?_);clear hK K;refine rd9 18 λK hK=>?_
 go_simp;refine(catO_t lp w16.heap.size 4 4 23 _ LL.out (by rw[PL.out];exact BB.out) XX.out (by rw[EL.out];exact LE.out) (by decide)).mono ?_
 rintro e wz ⟨u,rfl,fr⟩
 rw[EL.out] at fr;have FR:=hid (show PC w wz u (oI x.sp 0) from⟨own_base fr.1 (λk hk=>Nat.le_trans ZZ.out.bel.size (fr.1.lt k hk).1),ZZ.out.bel.trans (fr.2.mono ZZ.out.bel.size)⟩);have ZE:=hid (ZZ.out.below fr.2);have rq:=CELL.out _ ZE.out;clear fr ZZ XX BB;refine hK.out _ _ rq (λ_=>?_);clear hK K;refine tka9 19 rq ?_;refine wpAnyH_done (by kernel_rfl) ?_ _;go_simp;clear CELL r0 r3 r7 r11 r16 rz rq PL EL LE LL i1 i2 i3 i4 EH;obtain⟨g0,hg0⟩:∃ g,w.heap.size=g:=⟨_,rfl⟩;go_wp2_with fail
 obtain⟨ip,hip⟩:∃ p,x.ip=p:=⟨_,rfl⟩;obtain⟨wp,hwp⟩:∃ p,x.wp=p:=⟨_,rfl⟩;have HIP:=hid hip;have HWP:=hid hwp;clear hip hwp hg0
 go_loopw [3,4] (λo t wr=>∃ j:Nat,j≤n∧t= .int .i64 (j:Int)∧SB w wr x∧PC w wr o (oI x.sp j)) (λ_ t _=>n- (intOf t).toNat)
 case atStart=>exact⟨0,by omega,rfl,ZE.out,FR.out⟩
 case round=>
  clear ZE FR;obtain⟨j,hj,rfl,s0,pc⟩:=hrel;obtain⟨A0,k0,rfl,sr0⟩:=pC_open pc;have S0:=hid s0;have FR:=hid pc;have SR0:=hid sr0;clear s0 pc sr0;have c1:=(sv_cells S0.out.a).2.1;rw[HIP.out,HI.out] at c1
  by_cases hlt:j<n
  ·obtain⟨y,hy⟩:∃ y,x.its[j]? =some y:=⟨_,List.getElem?_eq_getElem (by rw[HI.out];exact hlt)⟩;obtain⟨b,o,hpe,hbl,rg⟩:=S0.out.rx.its j y hy;obtain rfl:ip=some ⟨b,o,none⟩:=HIP.out.symm.trans hpe;have RG:=hid rg;have j1:(j:Int)< (n:Int):=by omega
   have FS:=hid (iv_size y);have F1:=hid (iv_oneA y);have A1:=hid (Blk.new wr 106 [.int .i64 0,.int .i64 0,.slice none 0 0]);have A2:=hid (A1.out.setRow (iv y));have W1:=hid (below_setRow ((Below.refl wr.heap.size wr).alloc (Nat.le_refl _) (.cells ([.int .i64 0,.int .i64 0,.slice none 0 0]).toArray 106)) (Nat.le_refl _) (iv y).toArray);have YB:=hid (itB_h9 (MW.out.it y.i (List.mem_map_of_mem (List.mem_of_getElem? hy))) MW.out.n0);have HO:=hid (oI_succ (s:=x.sp) (k:=j) (y:=y.i) (by show(x.its.map (·.i))[j]? =_;rw[List.getElem?_map,hy];rfl));have YT:=hid (λ(W:World) (h:PB9 w W x wr.heap.size 106 (iv y))=>h.sb.rx.it y (List.mem_of_getElem? hy));clear rg hpe hbl hy
   go_upto_region 6 with(first
    |((with_reducible refine at_op (.load 106 (.tmp 39)) rfl ?_);go_must (refine wpList_load_mid rfl 106 (.tmp 39) rfl b (o+j * 3) rfl (iv y) _ RG.out Tryz.underlying106 rfl FS.out ?_))
    |((with_reducible refine store_blk 106 (.tmp 5) (.tmp 40) wr.heap.size 106 [.int .i64 0,.int .i64 0,.slice none 0 0] (iv y) rfl rfl ?_ ?_ ?_ ?_ ?_ ?_ ?_);exact A1.out;exact rfl;exact FS.out;exact F1.out;exact rfl;exact rfl))
   obtain⟨⟨ow,un,tt⟩,yp,yc⟩:=y;obtain⟨ha1,ha2,hb1,hb2,hpf⟩:=YB.out
   dsimp only at ha1 ha2 hb1 hb2
   obtain⟨a,rfl⟩:=nat_of ha1;obtain⟨d,rfl⟩:=nat_of hb1;have PFH:=hid hpf;have PFL:=hid (show(pf tt.length (gl tt)).length≤271 from pfl_length hpf);have i1:IntKind.u64.wrap (a:Int)=(a:Int):=IntWalk.u64_in _ (by omega);have i2:IntKind.u64.wrap (d:Int)=(d:Int):=IntWalk.u64_in _ (by omega);clear ha1 ha2 hb1 hb2 hpf YB;obtain⟨V2,hV⟩:∃ V,(wr.alloc (.cells #[.int .i64 0,.int .i64 0,.slice none 0 0] 106)).setRow wr.heap.size (iv ⟨⟨(a:Int),(d:Int),tt⟩,yp,yc⟩).toArray=V:=⟨_,rfl⟩;rw[hV] at A2 W1 ⊢;obtain⟨U,hU⟩:∃ U,V2.drew=U:=⟨_,rfl⟩;have BU:=hid (show Below V2.heap.size V2 U from by rw[←hU];exact(Below.refl _ _).drew);have Z0:=hid (show PB9 w U x wr.heap.size 106 (iv ⟨⟨(a:Int),(d:Int),tt⟩,yp,yc⟩) from(PB9.mk (S0.out.below W1.out) A2.out).below BU.out);have X0:=hid (show Six U [⟨A0,k0,oI x.sp j⟩] from λz hz=>by obtain rfl:=List.mem_singleton.1 hz;exact(SR0.out.below W1.out).below BU.out);have TRF:=hid (λ(W:World) (h:PB9 w W x wr.heap.size 106 (iv ⟨⟨(a:Int),(d:Int),tt⟩,yp,yc⟩))=>show TR W yp tt from YT.out W h);have CELL:=hid (λ(W:World) (h:PB9 w W x wr.heap.size 106 (iv ⟨⟨(a:Int),(d:Int),tt⟩,yp,yc⟩))=>show W.cell? ⟨wr.heap.size,0,none⟩=some (.int .i64 (a:Int))∧W.cell? ⟨wr.heap.size,1,none⟩=some (.int .i64 (d:Int))∧W.cell? ⟨wr.heap.size,2,none⟩=some (.slice yp tt.length yc) from iv_cells h.el);clear YT A1 RG FS F1 c1 S0 FR SR0;obtain⟨g3,hg3⟩:∃ g,wr.heap.size=g:=⟨_,rfl⟩;rw[hg3] at Z0 TRF CELL ⊢;refine wp_region_held (S:=λW=>W.cell? ⟨g3,0,none⟩=some (.int .i64 (a:Int))∧W.cell? ⟨g3,1,none⟩=some (.int .i64 (d:Int))∧W.cell? ⟨g3,2,none⟩=some (.slice yp tt.length yc)) (by kernel_rfl) ?_;change wpAnyH _ _ _ _ _ _ _ _ V2.drew;rw[hU];clear hU hV hg3 A2 W1 BU;have r0:=CELL.out _ Z0.out;refine tka9 0 r0 ?_;refine tka9 1 r0 ?_;refine tka9 5 r0 ?_;refine tka9 9 r0 ?_;refine tk9 2 ?_ ?_ r0 ?_;rotate_left 1
   ·(intro w hS;have hs:=hS.1;clear hS;go_simp;try (with_reducible rfl))
   refine tk9 6 ?_ ?_ r0 ?_;rotate_left 1
   ·(intro w hS;have hs:=hS.2.1;clear hS;go_simp;try (with_reducible rfl))
   refine tk9 10 ?_ ?_ r0 ?_;rotate_left 1
   ·(intro w hS;have hs:=hS.2.2;clear hS;go_simp;try (with_reducible rfl))
   refine tka9 3 r0 ?_;refine tka9 7 r0 ?_;refine rd9 4 λK hK=>?_
   go_simp;refine(refnum_t a 1 U (by decide) (by decide)).mono ?_
   rintro e w4 ⟨u,rfl,fr⟩
   obtain⟨A4,k4,rfl,_,sr,bb⟩:=fresh_opO fr;have Z4:=hid (Z0.out.below bb);have X4:=hid ((X0.out.below bb).snoc (c:=k4) sr);have r4:=CELL.out _ Z4.out;clear fr sr bb;refine hK.out _ _ r4 (λ_=>?_);clear hK K Z0 X0;refine rd9 8 λK hK=>?_
   go_simp;refine(refnum_t d 8 w4 (by decide) (by decide)).mono ?_
   rintro e w8 ⟨u,rfl,fr⟩
   obtain⟨A8,k8,rfl,_,sr,bb⟩:=fresh_opO fr;have Z8:=hid (Z4.out.below bb);have X8:=hid ((X4.out.below bb).snoc (c:=k8) sr);have r8:=CELL.out _ Z8.out;clear fr sr bb;refine hK.out _ _ r8 (λ_=>?_);clear hK K Z4 X4;refine rd9 11 λK hK=>?_
   go_simp;refine(refpf_t tt.length yc yp (gl tt) w8 (TRF.out _ Z8.out).t PFH.out).mono ?_
   rintro e w11 ⟨u,rfl,fr⟩
   obtain⟨A11,k11,rfl,_,sr,bb⟩:=fresh_opO fr;have Z11:=hid (Z8.out.below bb);have Spf:=hid sr;have X11:=hid (X8.out.below bb);have r11:=CELL.out _ Z11.out;clear fr sr bb Z8 X8;refine hK.out _ _ r11 (λ_=>?_);clear hK K;refine rd9 12 λK hK=>?_
   go_simp;refine(reftext_t (pf tt.length (gl tt)) A11 _ k11 w11 rfl Spf.out (by have:=PFL.out;omega)).mono ?_
   rintro e w12 ⟨u,rfl,fr⟩
   obtain⟨A12,k12,rfl,_,sr,bb⟩:=fresh_opO fr;have Z12:=hid (Z11.out.below bb);have X12:=hid ((X11.out.below bb).snoc (c:=k12) sr);have r12:=CELL.out _ Z12.out;clear fr sr bb Z11 X11 Spf;refine hK.out _ _ r12 (λ_=>?_);clear hK K;obtain⟨lp,hlp⟩:∃ l:List PartO,(([⟨A0,k0,oI x.sp j⟩]++[⟨A4,k4,beN a 1⟩])++[⟨A8,k8,beN d 8⟩])++[⟨A12,k12,txtN (pf tt.length (gl tt))⟩]=l:=⟨_,rfl⟩;rw[hlp] at X12;have LL:=hid (show lp.length=4 by rw[←hlp];rfl);have PL:=hid (show partsO lp=[.slice A0 (oI x.sp j).length k0,.slice A4 (beN a 1).length k4,.slice A8 (beN d 8).length k8,.slice A12 (txtN (pf tt.length (gl tt))).length k12] by rw[←hlp];rfl);have EL:=hid (show catO lp=oI x.sp (j+1) by rw[←hlp,HO.out];simp[catO,putI,pfl]);have LE:=hid (show(oI x.sp (j+1)).length≤1000000 from by have:=OLE.out.1 (j+1);have:=PLE.out;omega);clear hlp;have bz:Below w12.heap.size w12 (w12.alloc (.cells (partsO lp).toArray 23)):=(Below.refl _ _).alloc (Nat.le_refl _) _;have ZZ:=hid (Z12.out.below bz);have XX:=hid (X12.out.below bz);have BB:=hid (Blk.new w12 23 (partsO lp));have rz:=CELL.out _ ZZ.out;clear bz Z12 X12;refine rd9 13 λK hK=>?_
   go_simp;rw[PL.out] at ZZ XX BB rz;refine hK.out _ _ rz (λ_=>?_);clear hK K;refine rd9 14 λK hK=>?_
   go_simp;refine(catO_t lp w12.heap.size 4 4 23 _ LL.out (by rw[PL.out];exact BB.out) XX.out (by rw[EL.out];exact LE.out) (by decide)).mono ?_
   rintro e wz ⟨u,rfl,fr⟩
   rw[EL.out] at fr;have FR:=hid (show PC w wz u (oI x.sp (j+1)) from⟨own_base fr.1 (λk hk=>Nat.le_trans ZZ.out.bel.size (fr.1.lt k hk).1),ZZ.out.bel.trans (fr.2.mono ZZ.out.bel.size)⟩);have ZE:=hid (ZZ.out.below fr.2);have rq:=CELL.out _ ZE.out;clear fr ZZ XX BB;refine hK.out _ _ rq (λ_=>?_);clear hK K;refine tka9 15 rq ?_;refine wpAnyH_done (by kernel_rfl) ?_ _;go_simp;go_wp2_with fail
   go_roundw
   case rel=>exact⟨j+1,hlt,by go_num,ZE.out.sb,FR.out⟩
   case measure=>simp[intOf];omega
  ·obtain rfl:j=n:=by omega
   clear hlt;have HOV:=hid (show oV x.sp=oI x.sp j++beN m 1 from by
    unfold oV;rw[show x.sp.its.length=j by simp only[Spv.sp,List.length_map];exact HI.out,show x.sp.wts.length=m by simp only[Spv.sp,List.length_map];exact HW.out])
   have c2:=(sv_cells S0.out.a).2.2.1;rw[HWP.out,HW.out] at c2;have i5:IntKind.u64.wrap (m:Int)=(m:Int):=IntWalk.u64_in _ (by omega);go_wp2_with fail
   refine(refnum_t m 1 wr (by decide) (by decide)).mono ?_
   rintro e w5 ⟨u,rfl,fr⟩
   obtain⟨A5,k5,rfl,_,sr5,b5⟩:=fresh_opO fr;have S5:=hid (S0.out.below b5);have X5:=hid (SR0.out.below b5);have Y5:=hid sr5;clear fr sr5 b5 S0 SR0 FR c1 c2 i5;go_wp2_with fail
   have BP:=hid (Blk.new w5 23 (partsO [⟨A0,k0,oI x.sp j⟩,⟨A5,k5,beN m 1⟩]));have BW:=hid (show Below w5.heap.size w5 (w5.alloc (.cells (partsO [⟨A0,k0,oI x.sp j⟩,⟨A5,k5,beN m 1⟩]).toArray 23)) from(Below.refl _ _).alloc (Nat.le_refl _) _);have EV:=hid (show catO [⟨A0,k0,oI x.sp j⟩,⟨A5,k5,beN m 1⟩]=oV x.sp by rw[HOV.out];simp[catO]);have LV:=hid (show(oV x.sp).length≤1000000 from by have:=OLE.out.2.1;have:=PLE.out;omega);refine(catO_t [⟨A0,k0,oI x.sp j⟩,⟨A5,k5,beN m 1⟩] w5.heap.size 2 2 23 _ rfl BP.out (λz hz=>by
    simp only[List.mem_cons,List.not_mem_nil,or_false] at hz;rcases hz with rfl |rfl
    ·exact X5.out.below BW.out
    ·exact Y5.out.below BW.out) (by rw[EV.out];exact LV.out) (by decide)).mono ?_
   rintro e w6 ⟨u,rfl,fr⟩
   rw[EV.out] at fr;have S6:=hid ((S5.out.below BW.out).below fr.2);have hsz:w.heap.size≤(w5.alloc (.cells (partsO [⟨A0,k0,oI x.sp j⟩,⟨A5,k5,beN m 1⟩]).toArray 23)).heap.size:=(S5.out.below BW.out).bel.size;have FV:=hid (show PC w w6 u (oW x.sp 0) from by
    rw[show oW x.sp 0=oV x.sp from List.append_nil _];exact⟨own_base fr.1 (λk hk=>Nat.le_trans hsz (fr.1.lt k hk).1),S6.out.bel⟩)
   clear fr hsz S5 X5 Y5 BP BW EV LV HOV;go_wp2_with fail
   go_loopw [3,6] (λo t wr=>∃ j:Nat,j≤m∧t= .int .i64 (j:Int)∧SB w wr x∧PC w wr o (oW x.sp j)) (λ_ t _=>m- (intOf t).toNat)
   case atStart=>exact⟨0,by omega,rfl,S6.out,FV.out⟩
   case round=>
    clear S6 FV;obtain⟨j,hj,rfl,s0,pc⟩:=hrel;obtain⟨A0,k0,rfl,sr0⟩:=pC_open pc;have S0:=hid s0;have FR:=hid pc;have SR0:=hid sr0;clear s0 pc sr0;have c1:=(sv_cells S0.out.a).2.2.1;rw[HWP.out,HW.out] at c1
    by_cases hlt:j<m
    ·skip
     obtain⟨y,hy⟩:∃ y,x.wts[j]? =some y:=⟨_,List.getElem?_eq_getElem (by rw[HW.out];exact hlt)⟩;obtain⟨b,o,hpe,hbl,rg⟩:=S0.out.rx.wts j y hy;obtain rfl:wp=some ⟨b,o,none⟩:=HWP.out.symm.trans hpe;have RG:=hid rg;have j1:(j:Int)< (m:Int):=by omega
     have FS:=hid (wv_size y);have F1:=hid (wv_oneA y);have A1:=hid (Blk.new wr 109 [.int .i64 0,.int .i64 0,.bool false,.slice none 0 0]);have A2:=hid (A1.out.setRow (wv y));have W1:=hid (below_setRow ((Below.refl wr.heap.size wr).alloc (Nat.le_refl _) (.cells ([.int .i64 0,.int .i64 0,.bool false,.slice none 0 0]).toArray 109)) (Nat.le_refl _) (wv y).toArray);have YB:=hid (wtB_h9 (MW.out.wt y.x (List.mem_map_of_mem (List.mem_of_getElem? hy))));have HO:=hid (oW_succ (s:=x.sp) (k:=j) (y:=y.x) (by show(x.wts.map (·.x))[j]? =_;rw[List.getElem?_map,hy];rfl));have YT:=hid (λ(W:World) (h:PB9 w W x wr.heap.size 109 (wv y))=>h.sb.rx.wt y (List.mem_of_getElem? hy));clear rg hpe hbl hy
     go_upto_region 12 with(first
      |((with_reducible refine at_op (.load 109 (.tmp 74)) rfl ?_);go_must (refine wpList_load_mid rfl 109 (.tmp 74) rfl b (o+j * 4) rfl (wv y) _ RG.out Tryz.underlying109 rfl FS.out ?_))
      |((with_reducible refine store_blk 109 (.tmp 7) (.tmp 75) wr.heap.size 109 [.int .i64 0,.int .i64 0,.bool false,.slice none 0 0] (wv y) rfl rfl ?_ ?_ ?_ ?_ ?_ ?_ ?_);exact A1.out;exact rfl;exact FS.out;exact F1.out;exact rfl;exact rfl))
     obtain⟨⟨ow,un,tk,tt⟩,yp,yc⟩:=y;obtain⟨ha1,ha2,hb1,hb2,hpf⟩:=YB.out
     dsimp only at ha1 ha2 hb1 hb2
     obtain⟨a,rfl⟩:=nat_of ha1;obtain⟨d,rfl⟩:=nat_of (show 0≤un by omega);have PFH:=hid hpf;have PFL:=hid (show(pf tt.length (gl tt)).length≤271 from pfl_length hpf);have i1:IntKind.u64.wrap (a:Int)=(a:Int):=IntWalk.u64_in _ (by omega);have i2:IntKind.u64.wrap (d:Int)=(d:Int):=IntWalk.u64_in _ (by omega);clear ha1 ha2 hb1 hb2 hpf YB;obtain⟨V2,hV⟩:∃ V,(wr.alloc (.cells #[.int .i64 0,.int .i64 0,.bool false,.slice none 0 0] 109)).setRow wr.heap.size ((wv ⟨⟨(a:Int),(d:Int),tk,tt⟩,yp,yc⟩)).toArray=V:=⟨_,rfl⟩;rw[hV] at A2 W1 ⊢;obtain⟨U,hU⟩:∃ U,V2.drew=U:=⟨_,rfl⟩;have BU:=hid (show Below V2.heap.size V2 U from by rw[←hU];exact(Below.refl _ _).drew);have Z0:=hid (show PB9 w U x wr.heap.size 109 (wv ⟨⟨(a:Int),(d:Int),tk,tt⟩,yp,yc⟩) from(PB9.mk (S0.out.below W1.out) A2.out).below BU.out);have X0:=hid (show Six U [⟨A0,k0,(oW x.sp j)⟩] from λz hz=>by obtain rfl:=List.mem_singleton.1 hz;exact(SR0.out.below W1.out).below BU.out);have TRF:=hid (λ(W:World) (h:PB9 w W x wr.heap.size 109 (wv ⟨⟨(a:Int),(d:Int),tk,tt⟩,yp,yc⟩))=>show TR W yp tt from YT.out W h);have CELL:=hid (λ(W:World) (h:PB9 w W x wr.heap.size 109 (wv ⟨⟨(a:Int),(d:Int),tk,tt⟩,yp,yc⟩))=>show W.cell? ⟨wr.heap.size,0,none⟩=some (.int .i64 (a:Int))∧W.cell? ⟨wr.heap.size,1,none⟩=some (.int .i64 (d:Int))∧W.cell? ⟨wr.heap.size,2,none⟩=some (.bool tk)∧W.cell? ⟨wr.heap.size,3,none⟩=some (.slice yp tt.length yc) from wv_cells h.el);clear YT A1 RG FS F1 c1 S0 FR SR0;obtain⟨g3,hg3⟩:∃ g,wr.heap.size=g:=⟨_,rfl⟩;rw[hg3] at Z0 TRF CELL ⊢;refine wp_region_held (S:=λW=>W.cell? ⟨g3,0,none⟩=some (.int .i64 (a:Int))∧W.cell? ⟨g3,1,none⟩=some (.int .i64 (d:Int))∧W.cell? ⟨g3,2,none⟩=some (.bool tk)∧W.cell? ⟨g3,3,none⟩=some (.slice yp tt.length yc)) (by kernel_rfl) ?_;change wpAnyH _ _ _ _ _ _ _ _ V2.drew;rw[hU];clear hU hV hg3 A2 W1 BU;have r0:=CELL.out _ Z0.out;refine tka9 0 r0 ?_;refine tka9 1 r0 ?_;refine tka9 5 r0 ?_;refine tka9 9 r0 ?_;refine tka9 12 r0 ?_;refine tk9 2 ?_ ?_ r0 ?_;rotate_left 1
     ·(intro w hS;have hs:=hS.1;clear hS;go_simp;try (with_reducible rfl))
     refine tk9 6 ?_ ?_ r0 ?_;rotate_left 1
     ·(intro w hS;have hs:=hS.2.1;clear hS;go_simp;try (with_reducible rfl))
     refine tk9 10 ?_ ?_ r0 ?_;rotate_left 1
     ·(intro w hS;have hs:=hS.2.2.1;clear hS;go_simp;try (with_reducible rfl))
     refine tk9 13 ?_ ?_ r0 ?_;rotate_left 1
     ·(intro w hS;have hs:=hS.2.2.2;clear hS;go_simp;try (with_reducible rfl))
     refine tka9 3 r0 ?_;refine tka9 7 r0 ?_;refine rd9 4 λK hK=>?_
     go_simp;refine(refnum_t a 1 U (by decide) (by decide)).mono ?_
     rintro e w4 ⟨u,rfl,fr⟩
     obtain⟨A4,k4,rfl,_,sr,bb⟩:=fresh_opO fr;have Z4:=hid (Z0.out.below bb);have X4:=hid ((X0.out.below bb).snoc (c:=k4) sr);have r4:=CELL.out _ Z4.out;clear fr sr bb;refine hK.out _ _ r4 (λ_=>?_);clear hK K Z0 X0;refine rd9 8 λK hK=>?_
     go_simp;refine(refnum_t d 4 w4 (by decide) (by decide)).mono ?_
     rintro e w8 ⟨u,rfl,fr⟩
     obtain⟨A8,k8,rfl,_,sr,bb⟩:=fresh_opO fr;have Z8:=hid (Z4.out.below bb);have X8:=hid ((X4.out.below bb).snoc (c:=k8) sr);have r8:=CELL.out _ Z8.out;clear fr sr bb;refine hK.out _ _ r8 (λ_=>?_);clear hK K Z4 X4;refine rd9 11 λK hK=>?_
     go_simp;refine(bit_t tk w8).mono ?_
     rintro e w11 ⟨u,rfl,fr⟩
     obtain⟨A11,k11,rfl,_,sr,bb⟩:=fresh_opO fr;have Z11:=hid (Z8.out.below bb);have X11:=hid ((X8.out.below bb).snoc (c:=k11) sr);have r11:=CELL.out _ Z11.out;clear fr sr bb;refine hK.out _ _ r11 (λ_=>?_);clear hK K Z8 X8;refine rd9 14 λK hK=>?_
     go_simp;refine(refpf_t tt.length yc yp (gl tt) w11 (TRF.out _ Z11.out).t PFH.out).mono ?_
     rintro e w14 ⟨u,rfl,fr⟩
     obtain⟨A14,k14,rfl,_,sr,bb⟩:=fresh_opO fr;have Z14:=hid (Z11.out.below bb);have Spf:=hid sr;have X14:=hid (X11.out.below bb);have r14:=CELL.out _ Z14.out;clear fr sr bb Z11 X11;refine hK.out _ _ r14 (λ_=>?_);clear hK K;refine rd9 15 λK hK=>?_
     go_simp;refine(reftext_t (pf tt.length (gl tt)) A14 _ k14 w14 rfl Spf.out (by have:=PFL.out;omega)).mono ?_
     rintro e w15 ⟨u,rfl,fr⟩
     obtain⟨A15,k15,rfl,_,sr,bb⟩:=fresh_opO fr;have Z15:=hid (Z14.out.below bb);have X15:=hid ((X14.out.below bb).snoc (c:=k15) sr);have r15:=CELL.out _ Z15.out;clear fr sr bb Z14 X14 Spf;refine hK.out _ _ r15 (λ_=>?_);clear hK K;obtain⟨lp,hlp⟩:∃ l:List PartO,((([⟨A0,k0,(oW x.sp j)⟩]++[⟨A4,k4,beN a 1⟩])++[⟨A8,k8,beN d 4⟩])++[⟨A11,k11,[if tk then 1 else 0]⟩])++[⟨A15,k15,txtN (pf tt.length (gl tt))⟩]=l:=⟨_,rfl⟩;rw[hlp] at X15;have LL:=hid (show lp.length=5 by rw[←hlp];rfl);have PL:=hid (show partsO lp=[.slice A0 ((oW x.sp j)).length k0,.slice A4 (beN a 1).length k4,.slice A8 (beN d 4).length k8,.slice A11 [if tk then 1 else 0].length k11,.slice A15 (txtN (pf tt.length (gl tt))).length k15] by rw[←hlp];rfl);have EL:=hid (show catO lp=oW x.sp (j+1) by rw[←hlp,HO.out];simp[catO,putW,pfl,bit_eq]);have LE:=hid (show(oW x.sp (j+1)).length≤1000000 from by have:=OLE.out.2.2.1 (j+1);have:=PLE.out;omega);clear hlp;have bz:Below w15.heap.size w15 (w15.alloc (.cells (partsO lp).toArray 23)):=(Below.refl _ _).alloc (Nat.le_refl _) _;have ZZ:=hid (Z15.out.below bz);have XX:=hid (X15.out.below bz);have BB:=hid (Blk.new w15 23 (partsO lp));have rz:=CELL.out _ ZZ.out;clear bz Z15 X15;refine rd9 16 λK hK=>?_
     go_simp;rw[PL.out] at ZZ XX BB rz;refine hK.out _ _ rz (λ_=>?_);clear hK K;refine rd9 17 λK hK=>?_
     go_simp;refine(catO_t lp w15.heap.size 5 5 23 _ LL.out (by rw[PL.out];exact BB.out) XX.out (by rw[EL.out];exact LE.out) (by decide)).mono ?_
     rintro e wz ⟨u,rfl,fr⟩
     rw[EL.out] at fr;have FR:=hid (show PC w wz u (oW x.sp (j+1)) from⟨own_base fr.1 (λk hk=>Nat.le_trans ZZ.out.bel.size (fr.1.lt k hk).1),ZZ.out.bel.trans (fr.2.mono ZZ.out.bel.size)⟩);have ZE:=hid (ZZ.out.below fr.2);have rq:=CELL.out _ ZE.out;clear fr ZZ XX BB;refine hK.out _ _ rq (λ_=>?_);clear hK K;refine tka9 18 rq ?_;refine wpAnyH_done (by kernel_rfl) ?_ _;go_simp;go_wp2_with fail
     go_roundw
     case rel=>exact⟨j+1,hlt,by go_num,ZE.out.sb,FR.out⟩
     case measure=>simp[intOf];omega
    ·obtain rfl:j=m:=by omega
     clear hlt;have FV:=hid (show PC w wr (.slice A0 (oW x.sp j).length k0) (oL x.sp 0) from by
      rw[show oL x.sp 0=oW x.sp x.sp.wts.length from List.append_nil _,show x.sp.wts.length=j by simp only[Spv.sp,List.length_map];exact HW.out];exact FR.out)
     clear FR SR0;obtain⟨L0,hL0⟩:∃ v,(Value.slice A0 (oW x.sp j).length k0)=v:=⟨_,rfl⟩;rw[hL0] at FV;go_wp2_with fail
     clear c1;rw[hL0]
     go_loopw [3,8] (λo t wr=>∃ j:Nat,j≤4∧t= .int .i64 (j:Int)∧SB w wr x∧PC w wr o (oL x.sp j)) (λ_ t _=>4- (intOf t).toNat)
     case atStart=>exact⟨0,by omega,rfl,S0.out,FV.out⟩
     case round=>
      clear S0 FV hL0;obtain⟨j,hj,rfl,s0,pc⟩:=hrel;obtain⟨A0,k0,rfl,sr0⟩:=pC_open pc;have S0:=hid s0;have FR:=hid pc;have SR0:=hid sr0;clear s0 pc sr0
      by_cases hlt:j<4
      ·obtain⟨y,hy⟩:∃ y,x.last[j]? =some y:=⟨_,List.getElem?_eq_getElem (by rw[S0.out.rx.l4];exact hlt)⟩;obtain⟨A,C,hsp,hAl⟩:=sv_cut hy;have RG:=hid (show wr.rangeAt w.heap.size (5+j * 5) (pv y) from by
        have h9:=S0.out.a;rw[hsp] at h9;intro i v hv;have hi:=(List.getElem?_eq_some_iff.1 hv).1;rw[←hAl,h9.cell,List.getElem?_append_right (Nat.le_add_right _ _),Nat.add_sub_cancel_left,List.getElem?_append_left hi];exact hv)
       have j1:(j:Int)<4:=by omega
       have FS:=hid (pv_size y);have F1:=hid (pv_oneA y);have A1:=hid (Blk.new wr 43 [.int .i64 0,.int .i64 0,.int .i64 0,.slice none 0 0,.bool false]);have A2:=hid (A1.out.setRow (pv y));have W1:=hid (below_setRow ((Below.refl wr.heap.size wr).alloc (Nat.le_refl _) (.cells (#[.int .i64 0,.int .i64 0,.int .i64 0,.slice none 0 0,.bool false]) 43)) (Nat.le_refl _) (pv y).toArray);have YB:=hid (rpB_h (RPB.out y.r (List.mem_map_of_mem (List.mem_of_getElem? hy))));have HO:=hid (oL_succ (s:=x.sp) (k:=j) (y:=y.r) (by show(x.last.map (·.r))[j]? =_;rw[List.getElem?_map,hy];rfl));have YT:=hid (λ(W:World) (h:PB9 w W x wr.heap.size 43 (pv y))=>h.sb.rx.la y (List.mem_of_getElem? hy));clear hsp hAl hy
       go_upto_region 17 with(first
        |((with_reducible refine at_op (.load 43 (.tmp 100)) rfl ?_);go_must (refine wpList_load_mid rfl 43 (.tmp 100) rfl w.heap.size (5+j * 5) rfl (pv y) _ RG.out Tryz.underlying43 rfl FS.out ?_))
        |((with_reducible refine store_blk 43 (.tmp 9) (.tmp 101) wr.heap.size 43 [.int .i64 0,.int .i64 0,.int .i64 0,.slice none 0 0,.bool false] (pv y) rfl rfl ?_ ?_ ?_ ?_ ?_ ?_ ?_);exact A1.out;exact rfl;exact FS.out;exact F1.out;exact rfl;exact rfl))
       obtain⟨⟨cl,ow,un,tt,tk⟩,yp,yc⟩:=y;obtain⟨ha1,ha2,hb1,hb2,hpf⟩:=YB.out
       dsimp only at ha1 ha2 hb1 hb2
       obtain⟨a,rfl⟩:=nat_of ha1;obtain⟨d,rfl⟩:=nat_of hb1;have PFH:=hid hpf;have PFL:=hid (show(pf tt.length (gl tt)).length≤271 from pfl_length hpf);have i1:IntKind.u64.wrap (a:Int)=(a:Int):=IntWalk.u64_in _ (by omega);have i2:IntKind.u64.wrap (d:Int)=(d:Int):=IntWalk.u64_in _ (by omega);clear ha1 ha2 hb1 hb2 hpf YB;obtain⟨V2,hV⟩:∃ V,(wr.alloc (.cells #[.int .i64 0,.int .i64 0,.int .i64 0,.slice none 0 0,.bool false] 43)).setRow wr.heap.size ((pv ⟨⟨cl,(a:Int),(d:Int),tt,tk⟩,yp,yc⟩)).toArray=V:=⟨_,rfl⟩;rw[hV] at A2 W1 ⊢;obtain⟨U,hU⟩:∃ U,V2.drew=U:=⟨_,rfl⟩;have BU:=hid (show Below V2.heap.size V2 U from by rw[←hU];exact(Below.refl _ _).drew);have Z0:=hid (show PB9 w U x wr.heap.size 43 (pv ⟨⟨cl,(a:Int),(d:Int),tt,tk⟩,yp,yc⟩) from(PB9.mk (S0.out.below W1.out) A2.out).below BU.out);have X0:=hid (show Six U [⟨A0,k0,(oL x.sp j)⟩] from λz hz=>by obtain rfl:=List.mem_singleton.1 hz;exact(SR0.out.below W1.out).below BU.out);have TRF:=hid (λ(W:World) (h:PB9 w W x wr.heap.size 43 (pv ⟨⟨cl,(a:Int),(d:Int),tt,tk⟩,yp,yc⟩))=>show TR W yp tt from YT.out W h);have CELL:=hid (λ(W:World) (h:PB9 w W x wr.heap.size 43 (pv ⟨⟨cl,(a:Int),(d:Int),tt,tk⟩,yp,yc⟩))=>show W.cell? ⟨wr.heap.size,1,none⟩=some (.int .i64 (a:Int))∧W.cell? ⟨wr.heap.size,2,none⟩=some (.int .i64 (d:Int))∧W.cell? ⟨wr.heap.size,4,none⟩=some (.bool tk)∧W.cell? ⟨wr.heap.size,3,none⟩=some (.slice yp tt.length yc) from by
        obtain⟨_,e1,e2,e3,e4⟩:=pv_cells h.el;exact⟨e1,e2,e4,e3⟩)
       clear YT A1 RG FS F1 S0 FR SR0;obtain⟨g3,hg3⟩:∃ g,wr.heap.size=g:=⟨_,rfl⟩;rw[hg3] at Z0 TRF CELL ⊢;refine wp_region_held (S:=λW=>W.cell? ⟨g3,1,none⟩=some (.int .i64 (a:Int))∧W.cell? ⟨g3,2,none⟩=some (.int .i64 (d:Int))∧W.cell? ⟨g3,4,none⟩=some (.bool tk)∧W.cell? ⟨g3,3,none⟩=some (.slice yp tt.length yc)) (by kernel_rfl) ?_;change wpAnyH _ _ _ _ _ _ _ _ V2.drew;rw[hU];clear hU hV hg3 A2 W1 BU;have r0:=CELL.out _ Z0.out;refine tka9 0 r0 ?_;refine tka9 1 r0 ?_;refine tka9 5 r0 ?_;refine tka9 9 r0 ?_;refine tka9 12 r0 ?_;refine tk9 2 ?_ ?_ r0 ?_;rotate_left 1
       ·(intro w hS;have hs:=hS.1;clear hS;go_simp;try (with_reducible rfl))
       refine tk9 6 ?_ ?_ r0 ?_;rotate_left 1
       ·(intro w hS;have hs:=hS.2.1;clear hS;go_simp;try (with_reducible rfl))
       refine tk9 10 ?_ ?_ r0 ?_;rotate_left 1
       ·(intro w hS;have hs:=hS.2.2.1;clear hS;go_simp;try (with_reducible rfl))
       refine tk9 13 ?_ ?_ r0 ?_;rotate_left 1
       ·(intro w hS;have hs:=hS.2.2.2;clear hS;go_simp;try (with_reducible rfl))
       refine tka9 3 r0 ?_;refine tka9 7 r0 ?_;refine rd9 4 λK hK=>?_
       go_simp;refine(refnum_t a 4 U (by decide) (by decide)).mono ?_
       rintro e w4 ⟨u,rfl,fr⟩
       obtain⟨A4,k4,rfl,_,sr,bb⟩:=fresh_opO fr;have Z4:=hid (Z0.out.below bb);have X4:=hid ((X0.out.below bb).snoc (c:=k4) sr);have r4:=CELL.out _ Z4.out;clear fr sr bb;refine hK.out _ _ r4 (λ_=>?_);clear hK K Z0 X0;refine rd9 8 λK hK=>?_
       go_simp;refine(refnum_t d 1 w4 (by decide) (by decide)).mono ?_
       rintro e w8 ⟨u,rfl,fr⟩
       obtain⟨A8,k8,rfl,_,sr,bb⟩:=fresh_opO fr;have Z8:=hid (Z4.out.below bb);have X8:=hid ((X4.out.below bb).snoc (c:=k8) sr);have r8:=CELL.out _ Z8.out;clear fr sr bb;refine hK.out _ _ r8 (λ_=>?_);clear hK K Z4 X4;refine rd9 11 λK hK=>?_
       go_simp;refine(bit_t tk w8).mono ?_
       rintro e w11 ⟨u,rfl,fr⟩
       obtain⟨A11,k11,rfl,_,sr,bb⟩:=fresh_opO fr;have Z11:=hid (Z8.out.below bb);have X11:=hid ((X8.out.below bb).snoc (c:=k11) sr);have r11:=CELL.out _ Z11.out;clear fr sr bb;refine hK.out _ _ r11 (λ_=>?_);clear hK K Z8 X8;refine rd9 14 λK hK=>?_
       go_simp;refine(refpf_t tt.length yc yp (gl tt) w11 (TRF.out _ Z11.out).t PFH.out).mono ?_
       rintro e w14 ⟨u,rfl,fr⟩
       obtain⟨A14,k14,rfl,_,sr,bb⟩:=fresh_opO fr;have Z14:=hid (Z11.out.below bb);have Spf:=hid sr;have X14:=hid (X11.out.below bb);have r14:=CELL.out _ Z14.out;clear fr sr bb Z11 X11;refine hK.out _ _ r14 (λ_=>?_);clear hK K;refine rd9 15 λK hK=>?_
       go_simp;refine(reftext_t (pf tt.length (gl tt)) A14 _ k14 w14 rfl Spf.out (by have:=PFL.out;omega)).mono ?_
       rintro e w15 ⟨u,rfl,fr⟩
       obtain⟨A15,k15,rfl,_,sr,bb⟩:=fresh_opO fr;have Z15:=hid (Z14.out.below bb);have X15:=hid ((X14.out.below bb).snoc (c:=k15) sr);have r15:=CELL.out _ Z15.out;clear fr sr bb Z14 X14 Spf;refine hK.out _ _ r15 (λ_=>?_);clear hK K;obtain⟨lp,hlp⟩:∃ l:List PartO,((([⟨A0,k0,(oL x.sp j)⟩]++[⟨A4,k4,beN a 4⟩])++[⟨A8,k8,beN d 1⟩])++[⟨A11,k11,[if tk then 1 else 0]⟩])++[⟨A15,k15,txtN (pf tt.length (gl tt))⟩]=l:=⟨_,rfl⟩;rw[hlp] at X15;have LL:=hid (show lp.length=5 by rw[←hlp];rfl);have PL:=hid (show partsO lp=[.slice A0 ((oL x.sp j)).length k0,.slice A4 (beN a 4).length k4,.slice A8 (beN d 1).length k8,.slice A11 [if tk then 1 else 0].length k11,.slice A15 (txtN (pf tt.length (gl tt))).length k15] by rw[←hlp];rfl);have EL:=hid (show catO lp=oL x.sp (j+1) by rw[←hlp,HO.out];simp[catO,putL,pfl,bit_eq]);have LE:=hid (show(oL x.sp (j+1)).length≤1000000 from by have:=OLE.out.2.2.2 (j+1);have:=PLE.out;omega);clear hlp;have bz:Below w15.heap.size w15 (w15.alloc (.cells (partsO lp).toArray 23)):=(Below.refl _ _).alloc (Nat.le_refl _) _;have ZZ:=hid (Z15.out.below bz);have XX:=hid (X15.out.below bz);have BB:=hid (Blk.new w15 23 (partsO lp));have rz:=CELL.out _ ZZ.out;clear bz Z15 X15;refine rd9 16 λK hK=>?_
       go_simp;rw[PL.out] at ZZ XX BB rz;refine hK.out _ _ rz (λ_=>?_);clear hK K;refine rd9 17 λK hK=>?_
       go_simp;refine(catO_t lp w15.heap.size 5 5 23 _ LL.out (by rw[PL.out];exact BB.out) XX.out (by rw[EL.out];exact LE.out) (by decide)).mono ?_
       rintro e wz ⟨u,rfl,fr⟩
       rw[EL.out] at fr;have FR:=hid (show PC w wz u (oL x.sp (j+1)) from⟨own_base fr.1 (λk hk=>Nat.le_trans ZZ.out.bel.size (fr.1.lt k hk).1),ZZ.out.bel.trans (fr.2.mono ZZ.out.bel.size)⟩);have ZE:=hid (ZZ.out.below fr.2);have rq:=CELL.out _ ZE.out;clear fr ZZ XX BB;refine hK.out _ _ rq (λ_=>?_);clear hK K;refine tka9 18 rq ?_;refine wpAnyH_done (by kernel_rfl) ?_ _;go_simp;go_wp2_with fail
       go_roundw
       case rel=>exact⟨j+1,hlt,by go_num,ZE.out.sb,FR.out⟩
       case measure=>simp[intOf];omega
      ·obtain rfl:j=4:=by omega
       clear hlt;rw[OPE.out] at FR ⊢;go_wp2_with fail
       go_ret;exact⟨_,rfl,FR.out.own,FR.out.bel⟩
end Go.Proofs.YtlipjglehongeaaGreatDoor
