/-
  VoteElse walked
-/
import Derived.Test.YtjlophplcmidlaaGreatDoorAb40
import Derived.Test.YtjlophplcmidlaaGreatDoorAb44
import Derived.Test.YtjlophplcmidlaaGreatDoorAb45
import Derived.Test.YtjlophplcmidlaaGreatDoorTk
open Go.Lib (hid)
set_option maxRecDepth 100000
namespace Go.Proofs.YtjlophplcmidlaaGreatDoor
open Go Go.RowKit Sh
theorem u64_natV (p:Int):∃ a:Nat,IntKind.u64.wrap p=(a:Int):=by
 have h0:0≤IntKind.u64.wrap p:=by simp[IntKind.wrap,IntKind.bits,IntKind.signed];omega
 exact⟨(IntKind.u64.wrap p).toNat,by omega⟩
structure EL (w0 W:World) (gl ga gb ta tb:Nat) (x y:Gv) (l:List Nat) (s s':Nat) (pa pb:Addr):Prop where
 lk:Blk W gl 23 (u8s l)
 a:Blk W ga 27 (gv x)
 b:Blk W gb 27 (gv y)
 gx:GvW W x
 gy:GvW W y
 tx:Blk W ta 62 (treeM s 0)
 ty:Blk W tb 62 (treeM s' 0)
 la:pa.block<W.heap.size
 ca:W.cell? pa=some (.pointer (some ⟨ta,0,none⟩))
 lb:pb.block<W.heap.size
 cb:W.cell? pb=some (.pointer (some ⟨tb,0,none⟩))
 bel:Below w0.heap.size w0 W
theorem EL.below {w0 W W':World} {gl ga gb ta tb:Nat} {x y:Gv} {l:List Nat} {s s':Nat} {pa pb:Addr} (h:EL w0 W gl ga gb ta tb x y l s s' pa pb) (hb:Below W.heap.size W W'):EL w0 W' gl ga gb ta tb x y l s s' pa pb:=
 ⟨h.lk.below hb h.lk.lt,h.a.below hb h.a.lt,h.b.below hb h.b.lt,h.gx.below hb,h.gy.below hb,h.tx.below hb h.tx.lt,h.ty.below hb h.ty.lt,Nat.lt_of_lt_of_le h.la hb.size,(hb.cell h.la).trans h.ca,Nat.lt_of_lt_of_le h.lb hb.size,(hb.cell h.lb).trans h.cb,h.bel.trans (hb.mono h.bel.size)⟩
theorem form_ofV {P M S:List Nat} (h:verN P M S=0):formN P=true:=by
 unfold verN at h
 split at h
 ·assumption
 ·cases h
theorem EL.here {w0 W:World} {gl ga gb ta tb:Nat} {x y:Gv} {l:List Nat} {s s':Nat} {pa pb:Addr} (h:EL w0 W gl ga gb ta tb x y l s s' pa pb):EL W W gl ga gb ta tb x y l s s' pa pb:=
 ⟨h.lk,h.a,h.b,h.gx,h.gy,h.tx,h.ty,h.la,h.ca,h.lb,h.cb,Below.refl _ _⟩
theorem begB_make {x:Gv} {s:Nat} (h:x.ge=⟨0,15,15,[keyM s 0],[]⟩):begB x=true:=by
 rw[begB_Q,h];have hf:formN (keyM s 0)=true:=form_ofV (verN_sign (secI s 0) (secS s 0) 1 0 [] (by decide) (by decide) (secI_length s 0));unfold begQ mayK stQ;simp only[List.length_cons,List.length_nil,List.all_cons,List.all_nil,hf];rfl
theorem one_key {x:Gv} {f r q:Int} {k:List Nat} {st:List Nat} (h:x.ge=⟨f,r,q,[k],st⟩):∃ y:Ky,x.ks=[y]∧y.X=k:=by
 have h1:x.ks.map (·.X)=[k]:=congrArg (λe=>e.ks) h
 match hk:x.ks,h1 with
 |[y],h1=>exact⟨y,rfl,by simpa using h1⟩
theorem hold_make (s q:Nat) (T:List Nat) (hq:q<32):verN (keyM s 0) T (lsigN (secI s 0) (secS s 0) 1 q T)=0:=verN_sign (secI s 0) (secS s 0) 1 q T (by decide) hq (secI_length s 0)
theorem anE_ge {x y:Gv} (h:x.ge=y.ge):anE x=anE y:=by
 unfold anE pg;unfold Gv.ge at h;simp only[Ge.mk.injEq] at h;obtain⟨h1,h2,h3,h4,h5⟩:=h;rw[h1,h2,h3,h4,h5]
structure S8 (Y:World) (gl ga gv1 gv2:Nat) (x:Gv) (l:List Nat) (v u:Vv):Prop where
 ra:Y.rangeAt ga 0 (gv x)
 rl:Y.rangeAt gl 0 (u8s l)
 rv:Y.rangeAt gv1 0 (vv v)
 ru:Y.rangeAt gv2 0 (vv u)
 cv:Y.cell? ⟨gv1,34,none⟩=some (.slice v.A v.s.length v.c)
 cu:Y.cell? ⟨gv2,34,none⟩=some (.slice u.A u.s.length u.c)
 sv:Sr Y v.A v.s
 su:Sr Y u.A u.s
set_option maxHeartbeats 4000000 in
theorem velse_t (a b:Int) (l:List Nat) (c:Int) (w:World) (hl:l.length=32) (hlb:Bytes l) (hk:KAt w) (hki:KI w):
  Calls Tryz.prog 4 #[.int .i64 a,.int .i64 b,.agg (u8s l).toArray,.int .i64 c] w λe w'=>e= .returned (.bool true)∧Below w.heap.size w w':=by
 obtain⟨s,hs⟩:=u64_natV a;obtain⟨s',hs'⟩:=u64_natV b;obtain⟨q,hq,hqe⟩:=mod_bigTX 32 (by decide) (by decide) c;rw[show((32:Nat):Int)=32 from rfl] at hqe;have hqe2:IntKind.i64.wrap ((IntKind.u64.wrap c).tmod 32)=(q:Int):=by
  have h:=hqe;unfold wrap64 at h
  generalize (IntKind.u64.wrap c).tmod 32=z at h ⊢
  simp[IntKind.wrap,IntKind.bits,IntKind.signed];omega
 clear hqe;have HL:=hid hl;have HLB:=hid hlb;have MA:=hid (λW=>make_t 0 s a W (by decide) hs);have MB:=hid (λW=>make_t 0 s' b W (by decide) hs');rw[show((0:Nat):Int)=0 from rfl] at MA MB;have TO:=hid (λW (h:Below w.heap.size w W)=>told13_t W (hki.kept h) (hk.below h hk.lt));have HK:=hid (λW (h:Below w.heap.size w W)=>hk.below h hk.lt);have HKI:=hid (λW (h:Below w.heap.size w W)=>hki.kept h);have L0:=hid (Blk.new w 23 (u8s l));have B0:=hid ((Below.refl w.heap.size w).alloc (Nat.le_refl _) (.cells (u8s l).toArray 23));clear hl hlb hs hs' hk hki
 go_enter Tryz.func4,Tryz.ntmps4
 go_wp2_with fail
 refine(MA.out _).mono ?_
 rintro e w1 ⟨x,lp,lc,ts,rfl,hts,hge,gx,gcx,rl,tr,b1⟩
 obtain⟨ta,rfl⟩:∃ t,ts=[t]:=by
  match ts,hts with
  |[t],_=>exact⟨t,rfl⟩
 have T1:=hid (tr 0 ta rfl).2;obtain⟨pb,po,hlp,hpl,hpr⟩:=rl 0 ta rfl;subst hlp;have P1:=hid (show w1.cell? ⟨pb,po,none⟩=some (.pointer (some ⟨ta,0,none⟩)) from by have:=hpr 0 _ rfl;simpa using this);have hpl1:pb<w1.heap.size:=hpl;have HGX:=hid (show x.ge=⟨0,15,15,[keyM s 0],[]⟩ from hge);have GX:=hid gx;have GCX:=hid gcx;have L1:=hid (L0.out.below b1 L0.out.lt);have B1:=hid (B0.out.trans (b1.mono B0.out.size));clear hts hge gx gcx rl tr b1 hpl hpr L0 B0 MA;have FX_x:=hid (gv_size x);have FO_x:=hid (gv_one x);have Z_x:=hid (Blk.new w1 27 (gv zGv));have K_x:=hid (Z_x.out.setRow (gv x));have B_x:=hid (below_setRow ((Below.refl (w1).heap.size w1).alloc (Nat.le_refl _) (.cells (gv zGv).toArray 27)) (Nat.le_refl _) (gv x).toArray)
 go_upto_region 2 with((with_reducible refine at_op (.store 27 (.tmp 9) (.tmp 19)) rfl ?_);go_must (refine store_blk 27 (.tmp 9) (.tmp 19) (w1).heap.size 27 (gv zGv) (gv x) rfl rfl Z_x.out rfl FX_x.out FO_x.out rfl rfl ?_))
 obtain⟨V1,hV1⟩:∃ V,((w1).alloc (.cells (gv zGv).toArray 27)).setRow (w1).heap.size (gv x).toArray=V:=⟨_,rfl⟩;change Code.wp _ _ _ _ (((w1).alloc (.cells (gv zGv).toArray 27)).setRow (w1).heap.size (gv x).toArray);rw[hV1] at K_x B_x ⊢;clear hV1 Z_x FO_x;go_wp2_with fail
 refine(MB.out _).mono ?_
 rintro e w2 ⟨y,lq,ld,us,rfl,hts,hge,gx,gcx,rl,tr,b2⟩
 obtain⟨tb,rfl⟩:∃ t,us=[t]:=by
  match us,hts with
  |[t],_=>exact⟨t,rfl⟩
 have T2:=hid (tr 0 tb rfl).2;obtain⟨qb,qo,hlq,hql,hqr⟩:=rl 0 tb rfl;subst hlq;have P2:=hid (show w2.cell? ⟨qb,qo,none⟩=some (.pointer (some ⟨tb,0,none⟩)) from by have:=hqr 0 _ rfl;simpa using this);have HGY:=hid (show y.ge=⟨0,15,15,[keyM s' 0],[]⟩ from hge);have GY:=hid gx;have GCY:=hid gcx;have BX1:=hid (B_x.out.trans (b2.mono B_x.out.size));have KX:=hid (K_x.out.below b2 K_x.out.lt);have hql2:qb<w2.heap.size:=hql;clear hts hge gx gcx rl tr b2 hql hqr MB K_x B_x;have FX_y:=hid (gv_size y);have FO_y:=hid (gv_one y);have Z_y:=hid (Blk.new w2 27 (gv zGv));have K_y:=hid (Z_y.out.setRow (gv y));have B_y:=hid (below_setRow ((Below.refl (w2).heap.size w2).alloc (Nat.le_refl _) (.cells (gv zGv).toArray 27)) (Nat.le_refl _) (gv y).toArray)
 go_upto_region 3 with((with_reducible refine at_op (.store 27 (.tmp 11) (.tmp 24)) rfl ?_);go_must (refine store_blk 27 (.tmp 11) (.tmp 24) (w2).heap.size 27 (gv zGv) (gv y) rfl rfl Z_y.out rfl FX_y.out FO_y.out rfl rfl ?_))
 obtain⟨V2,hV2⟩:∃ V,((w2).alloc (.cells (gv zGv).toArray 27)).setRow (w2).heap.size (gv y).toArray=V:=⟨_,rfl⟩;change Code.wp _ _ _ _ (((w2).alloc (.cells (gv zGv).toArray 27)).setRow (w2).heap.size (gv y).toArray);rw[hV2] at K_y B_y ⊢;clear hV2 Z_y FO_y;have BZ:=hid (BX1.out.trans (B_y.out.mono BX1.out.size));have E0:=hid (show EL w V2 w.heap.size w1.heap.size w2.heap.size ta tb x y l s s' ⟨pb,po,none⟩ ⟨qb,qo,none⟩ from
  ⟨L1.out.below BZ.out L1.out.lt,KX.out.below B_y.out KX.out.lt,K_y.out,GX.out.below BZ.out,GY.out.below B_y.out,T1.out.below BZ.out T1.out.lt,T2.out.below B_y.out T2.out.lt,Nat.lt_of_lt_of_le hpl1 BZ.out.size,(BZ.out.cell (p:=⟨pb,po,none⟩) hpl1).trans P1.out,Nat.lt_of_lt_of_le hql2 B_y.out.size,(B_y.out.cell (p:=⟨qb,qo,none⟩) hql2).trans P2.out,B1.out.trans (BZ.out.mono B1.out.size)⟩)
 obtain⟨ga,hga⟩:∃ z,w1.heap.size=z:=⟨_,rfl⟩;obtain⟨gb,hgb⟩:∃ z,w2.heap.size=z:=⟨_,rfl⟩;rw[hga,hgb] at E0 ⊢;have BGX:=hid (begB_make HGX.out);have BGY:=hid (begB_make HGY.out);have CX:=hid (λW (h:EL W W w.heap.size ga gb ta tb x y l s s' ⟨pb,po,none⟩ ⟨qb,qo,none⟩)=>cast_t x s 0 ta 5 q 0 l W h.gx GCX.out BGX.out (by have h:=congrArg (λe=>e.st) HGX.out;have h2:x.st=[]:=h;rw[h2];decide) h.tx (by decide) hq HL.out HLB.out);have CY:=hid (λW (h:EL W W w.heap.size ga gb ta tb x y l s s' ⟨pb,po,none⟩ ⟨qb,qo,none⟩)=>cast_t y s' 0 tb 5 q 0 l W h.gy GCY.out BGY.out (by have h:=congrArg (λe=>e.st) HGY.out;have h2:y.st=[]:=h;rw[h2];decide) h.ty (by decide) hq HL.out HLB.out);rw[show((5:Nat):Int)=5 from rfl] at CX CY;have ZL:=hid (hash_size l HL.out);clear T1 P1 GX GCX L1 B1 BX1 KX P2 T2 GY GCY K_y B_y BZ hga hgb hpl1 hql2
 go_upto_region 3 with(fail)
 go_cut [13] (λs9 wx=>∃ (gz:Nat) (z:Vv),s9= .pointer (some ⟨gz,0,none⟩)∧z.vt=⟨5,0,l,lsigN (secI s 0) (secS s 0) 1 q (textV (anE x) 5 l)⟩∧VvW wx z∧Blk wx gz 33 (vv z)∧EL w wx w.heap.size ga gb ta tb x y l s s' ⟨pb,po,none⟩ ⟨qb,qo,none⟩)
 case first=>
  obtain⟨U,hU⟩:∃ Z,V2.drew=Z:=⟨_,rfl⟩;have bU:Below V2.heap.size V2 U:=by rw[←hU];exact(Below.refl _ _).drew
  have E1:=hid (E0.out.below bU);refine wp_region_held (S:=λY=>Y.rangeAt ga 0 (gv x)∧Y.rangeAt w.heap.size 0 (u8s l)∧Y.cell? ⟨pb,po,none⟩=some (.pointer (some ⟨ta,0,none⟩))) (by kernel_rfl) ?_;change wpAnyH _ _ _ _ _ _ _ _ V2.drew;rw[hU];clear hU bU;have RS:=hid (λY (h:EL w Y w.heap.size ga gb ta tb x y l s s' ⟨pb,po,none⟩ ⟨qb,qo,none⟩)=>show Y.rangeAt ga 0 (gv x)∧Y.rangeAt w.heap.size 0 (u8s l)∧Y.cell? ⟨pb,po,none⟩=some (.pointer (some ⟨ta,0,none⟩)) from⟨rows_of_blk h.a,rows_of_blk h.lk,h.ca⟩);have r1:=RS.out U E1.out;have ul:=E1.out.a.lt;refine tkg9 0 (v:= .agg (gv x).toArray) (yieldsIf_load_mid (by kernel_rfl) 27 (.tmp 9) rfl ga 0 (by go_simp) (gv x) _ (λ_ h=>h.1) Tryz.underlying27 rfl (FX_x.out)) r1 ?_;refine tka9 1 r1 ?_;refine tka9 2 r1 ?_;refine tk9 3 ?_ ?_ r1 ?_;rotate_left 1
  ·(intro w hS;have hs:=hS.2.2;clear hS;go_simp;try (with_reducible rfl))
  refine tka9 4 r1 ?_;refine tka9 5 r1 ?_;refine tka9 6 r1 ?_;refine tka9 7 r1 ?_;refine tkg9 8 (v:= .agg (u8s l).toArray) (yieldsIf_load_mid (by kernel_rfl) 23 (.tmp 6) rfl w.heap.size 0 (by go_simp) (u8s l) _ (λ_ h=>h.2.1) Tryz.underlying23 rfl (ZL.out)) r1 ?_;refine wpAnyH_ready (rs:=[9,10]) (by kernel_rfl) (by simp) ?_;refine AllReadyH.cons rfl (λK hK=>?_) (AllReadyH.cons rfl (λK hK=>?_) AllReadyH.nil)
  ·skip
   go_simp;refine(CX.out U E1.out.here).mono ?_
   rintro e w3 ⟨z,rfl,hvt,hvw,hva,b3⟩
   have E3:=hid (E1.out.below b3);have r3:=RS.out w3 E3.out;refine hK.out _ _ r3 (λ_=>?_);clear hK K;refine rd9 10 λK hK=>?_
   go_simp;have bz:=(Below.refl w3.heap.size w3).alloc (Nat.le_refl _) (.cells (vv zVv).toArray 33);have ZB:=Blk.new w3 33 (vv zVv);have r4:=RS.out _ (E3.out.below bz);refine hK.out _ _ r4 (λ_=>?_);clear hK K;have HV:=hid (hvw.below bz);have hnb:0<z.s.length→∀ ad:Addr,z.A=some ad→ad.block≠w3.heap.size:=λh ad e=>Nat.ne_of_lt (hvw.s.lt h ad e)
   have hU3:U.heap.size≤w3.heap.size:=b3.size;have bel5:=b3.trans (bz.mono b3.size);change wpAnyH _ _ _ _ _ _ _ _ (w3.alloc (.cells (vv zVv).toArray 33));obtain⟨w5,hw5⟩:∃ Z,w3.alloc (.cells (vv zVv).toArray 33)=Z:=⟨_,rfl⟩;obtain⟨gz,hgz⟩:∃ Z,w3.heap.size=Z:=⟨_,rfl⟩;rw[hw5] at ZB HV bel5 ⊢;rw[hgz] at ZB hnb hU3 ⊢;clear hw5 hgz bz b3 r3 r4 E3 hva;refine rdw9 11 λK hK=>?_
   refine wstore_part 33 (.tmp 13) (.tmp 35) gz 0 33 [] (vv zVv) [] (vv z) rfl (by rw[List.nil_append,List.append_nil];exact ZB) rfl (by rw[vv_len hvw.ll,vv_len (x:=zVv) (by rfl)]) (vv_size hvw.ll) (vv_one z) rfl rfl ?_;intro wz a1 a2 a3;have BZ:=hid (show Blk wz gz 33 (vv z) by have:=a1.out;rwa [List.nil_append,List.append_nil] at this);have belz:Below U.heap.size U wz:=bel5.trans (a2.out.below hU3 bel5.size);have EZ:=hid (E1.out.below belz);have WZ:=hid (show VvW wz z from⟨HV.out.ll,HV.out.lb,HV.out.s.kept (F:=λk=>k=gz) ⟨a2.out.os,a2.out.tape,a2.out.output,a2.out.size,λk hk hf=>a2.out.block k hk hf⟩ (λh ad e=>hnb h ad e),HV.out.sb,HV.out.sn⟩);refine hK.out _ _ (RS.out wz EZ.out) (λ_=>?_);clear hK K;refine wpAnyH_done (by kernel_rfl) ?_ _;go_simp;go_wp2_with fail
   go_meet
   exact⟨gz,z,rfl,hvt,WZ.out,BZ.out,EZ.out⟩
  ·skip
   rw[if_pos (by kernel_rfl)];go_simp;have bz:=(Below.refl U.heap.size U).alloc (Nat.le_refl _) (.cells (vv zVv).toArray 33);have ZB:=Blk.new U 33 (vv zVv);have E4:=hid (E1.out.below bz);have r4:=RS.out _ E4.out;refine hK.out _ _ r4 (λ_=>?_);clear hK K;change wpAnyH _ _ _ _ _ _ _ _ (U.alloc (.cells (vv zVv).toArray 33));have hsz:(U.alloc (.cells (vv zVv).toArray 33)).heap.size=U.heap.size+1:=by simp
   obtain⟨w4,hw4⟩:∃ Z,U.alloc (.cells (vv zVv).toArray 33)=Z:=⟨_,rfl⟩;rw[hw4] at bz ZB E4 r4 hsz ⊢;refine rd9 9 λK hK=>?_
   go_simp;refine(CX.out w4 E4.out.here).mono ?_
   rintro e w5 ⟨z,rfl,hvt,hvw,hva,b5⟩
   have r5:=RS.out w5 (E4.out.below b5);refine hK.out _ _ r5 (λ_=>?_);clear hK K;have HV:=hid hvw;have bel5:=bz.trans (b5.mono bz.size);have ZB:=ZB.below b5 ZB.lt;have hU3:U.heap.size≤U.heap.size:=Nat.le_refl _;have hnb:0<z.s.length→∀ ad:Addr,z.A=some ad→ad.block≠U.heap.size:=λ_ ad e=>by have:=hva ad e;omega
   obtain⟨gz,hgz⟩:∃ Z,U.heap.size=Z:=⟨_,rfl⟩;have hU3:U.heap.size≤gz:=Nat.le_of_eq hgz;rw[hgz] at ZB hnb ⊢;clear hw4 hgz bz b5 r4 r5 E4 hva hsz;refine rdw9 11 λK hK=>?_
   refine wstore_part 33 (.tmp 13) (.tmp 35) gz 0 33 [] (vv zVv) [] (vv z) rfl (by rw[List.nil_append,List.append_nil];exact ZB) rfl (by rw[vv_len hvw.ll,vv_len (x:=zVv) (by rfl)]) (vv_size hvw.ll) (vv_one z) rfl rfl ?_;intro wz a1 a2 a3;have BZ:=hid (show Blk wz gz 33 (vv z) by have:=a1.out;rwa [List.nil_append,List.append_nil] at this);have belz:Below U.heap.size U wz:=bel5.trans (a2.out.below hU3 bel5.size);have EZ:=hid (E1.out.below belz);have WZ:=hid (show VvW wz z from⟨HV.out.ll,HV.out.lb,HV.out.s.kept (F:=λk=>k=gz) ⟨a2.out.os,a2.out.tape,a2.out.output,a2.out.size,λk hk hf=>a2.out.block k hk hf⟩ (λh ad e=>hnb h ad e),HV.out.sb,HV.out.sn⟩);refine hK.out _ _ (RS.out wz EZ.out) (λ_=>?_);clear hK K;refine wpAnyH_done (by kernel_rfl) ?_ _;go_simp;go_wp2_with fail
   go_meet
   exact⟨gz,z,rfl,hvt,WZ.out,BZ.out,EZ.out⟩
 case rest=>
  obtain⟨gv1,v,rfl,hvt,hvw,hvb,he⟩:=hcut;have HVT:=hid hvt;have VW:=hid hvw;have VB:=hid hvb;have E2:=hid he;clear hvt hvw hvb he E0 CX
  go_upto_region 4 with(fail)
  go_cut [14] (λs9 wx=>∃ (gz:Nat) (z:Vv),s9= .pointer (some ⟨gz,0,none⟩)∧z.vt=⟨5,0,l,lsigN (secI s' 0) (secS s' 0) 1 q (textV (anE y) 5 l)⟩∧VvW wx z∧Blk wx gz 33 (vv z)∧VvW wx v∧Blk wx gv1 33 (vv v)∧EL w wx w.heap.size ga gb ta tb x y l s s' ⟨pb,po,none⟩ ⟨qb,qo,none⟩)
  case first=>
   obtain⟨U,hU⟩:∃ Z,wc.drew=Z:=⟨_,rfl⟩;have bU:Below wc.heap.size wc U:=by rw[←hU];exact(Below.refl _ _).drew
   have E1:=hid (E2.out.below bU);have V1:=hid (VW.out.below bU);have VB1:=hid (VB.out.below bU VB.out.lt);refine wp_region_held (S:=λY=>Y.rangeAt gb 0 (gv y)∧Y.rangeAt w.heap.size 0 (u8s l)∧Y.cell? ⟨qb,qo,none⟩=some (.pointer (some ⟨tb,0,none⟩))) (by kernel_rfl) ?_;change wpAnyH _ _ _ _ _ _ _ _ wc.drew;rw[hU];clear hU bU;have RS:=hid (λY (h:EL w Y w.heap.size ga gb ta tb x y l s s' ⟨pb,po,none⟩ ⟨qb,qo,none⟩)=>show Y.rangeAt gb 0 (gv y)∧Y.rangeAt w.heap.size 0 (u8s l)∧Y.cell? ⟨qb,qo,none⟩=some (.pointer (some ⟨tb,0,none⟩)) from⟨rows_of_blk h.b,rows_of_blk h.lk,h.cb⟩);have r1:=RS.out U E1.out;have ul:=E1.out.a.lt;refine tkg9 0 (v:= .agg (gv y).toArray) (yieldsIf_load_mid (by kernel_rfl) 27 (.tmp 11) rfl gb 0 (by go_simp) (gv y) _ (λ_ h=>h.1) Tryz.underlying27 rfl (FX_y.out)) r1 ?_;refine tka9 1 r1 ?_;refine tka9 2 r1 ?_;refine tk9 3 ?_ ?_ r1 ?_;rotate_left 1
   ·(intro w hS;have hs:=hS.2.2;clear hS;go_simp;try (with_reducible rfl))
   refine tka9 4 r1 ?_;refine tka9 5 r1 ?_;refine tka9 6 r1 ?_;refine tka9 7 r1 ?_;refine tkg9 8 (v:= .agg (u8s l).toArray) (yieldsIf_load_mid (by kernel_rfl) 23 (.tmp 6) rfl w.heap.size 0 (by go_simp) (u8s l) _ (λ_ h=>h.2.1) Tryz.underlying23 rfl (ZL.out)) r1 ?_;refine wpAnyH_ready (rs:=[9,10]) (by kernel_rfl) (by simp) ?_;refine AllReadyH.cons rfl (λK hK=>?_) (AllReadyH.cons rfl (λK hK=>?_) AllReadyH.nil)
   ·skip
    go_simp;refine(CY.out U E1.out.here).mono ?_
    rintro e w3 ⟨z,rfl,hvt,hvw,hva,b3⟩
    have E3:=hid (E1.out.below b3);have r3:=RS.out w3 E3.out;refine hK.out _ _ r3 (λ_=>?_);clear hK K;refine rd9 10 λK hK=>?_
    go_simp;have bz:=(Below.refl w3.heap.size w3).alloc (Nat.le_refl _) (.cells (vv zVv).toArray 33);have ZB:=Blk.new w3 33 (vv zVv);have r4:=RS.out _ (E3.out.below bz);refine hK.out _ _ r4 (λ_=>?_);clear hK K;have HV:=hid (hvw.below bz);have hnb:0<z.s.length→∀ ad:Addr,z.A=some ad→ad.block≠w3.heap.size:=λh ad e=>Nat.ne_of_lt (hvw.s.lt h ad e)
    have hU3:U.heap.size≤w3.heap.size:=b3.size;have bel5:=b3.trans (bz.mono b3.size);change wpAnyH _ _ _ _ _ _ _ _ (w3.alloc (.cells (vv zVv).toArray 33));obtain⟨w5,hw5⟩:∃ Z,w3.alloc (.cells (vv zVv).toArray 33)=Z:=⟨_,rfl⟩;obtain⟨gz,hgz⟩:∃ Z,w3.heap.size=Z:=⟨_,rfl⟩;rw[hw5] at ZB HV bel5 ⊢;rw[hgz] at ZB hnb hU3 ⊢;clear hw5 hgz bz b3 r3 r4 E3 hva;refine rdw9 11 λK hK=>?_
    refine wstore_part 33 (.tmp 14) (.tmp 45) gz 0 33 [] (vv zVv) [] (vv z) rfl (by rw[List.nil_append,List.append_nil];exact ZB) rfl (by rw[vv_len hvw.ll,vv_len (x:=zVv) (by rfl)]) (vv_size hvw.ll) (vv_one z) rfl rfl ?_;intro wz a1 a2 a3;have BZ:=hid (show Blk wz gz 33 (vv z) by have:=a1.out;rwa [List.nil_append,List.append_nil] at this);have belz:Below U.heap.size U wz:=bel5.trans (a2.out.below hU3 bel5.size);have EZ:=hid (E1.out.below belz);have WZ:=hid (show VvW wz z from⟨HV.out.ll,HV.out.lb,HV.out.s.kept (F:=λk=>k=gz) ⟨a2.out.os,a2.out.tape,a2.out.output,a2.out.size,λk hk hf=>a2.out.block k hk hf⟩ (λh ad e=>hnb h ad e),HV.out.sb,HV.out.sn⟩);refine hK.out _ _ (RS.out wz EZ.out) (λ_=>?_);clear hK K;refine wpAnyH_done (by kernel_rfl) ?_ _;go_simp;go_wp2_with fail
    go_meet
    exact⟨gz,z,rfl,hvt,WZ.out,BZ.out,V1.out.below belz,VB1.out.below belz VB1.out.lt,EZ.out⟩
   ·skip
    rw[if_pos (by kernel_rfl)];go_simp;have bz:=(Below.refl U.heap.size U).alloc (Nat.le_refl _) (.cells (vv zVv).toArray 33);have ZB:=Blk.new U 33 (vv zVv);have E4:=hid (E1.out.below bz);have r4:=RS.out _ E4.out;refine hK.out _ _ r4 (λ_=>?_);clear hK K;change wpAnyH _ _ _ _ _ _ _ _ (U.alloc (.cells (vv zVv).toArray 33));have hsz:(U.alloc (.cells (vv zVv).toArray 33)).heap.size=U.heap.size+1:=by simp
    obtain⟨w4,hw4⟩:∃ Z,U.alloc (.cells (vv zVv).toArray 33)=Z:=⟨_,rfl⟩;rw[hw4] at bz ZB E4 r4 hsz ⊢;refine rd9 9 λK hK=>?_
    go_simp;refine(CY.out w4 E4.out.here).mono ?_
    rintro e w5 ⟨z,rfl,hvt,hvw,hva,b5⟩
    have r5:=RS.out w5 (E4.out.below b5);refine hK.out _ _ r5 (λ_=>?_);clear hK K;have HV:=hid hvw;have bel5:=bz.trans (b5.mono bz.size);have ZB:=ZB.below b5 ZB.lt;have hU3:U.heap.size≤U.heap.size:=Nat.le_refl _;have hnb:0<z.s.length→∀ ad:Addr,z.A=some ad→ad.block≠U.heap.size:=λ_ ad e=>by have:=hva ad e;omega
    obtain⟨gz,hgz⟩:∃ Z,U.heap.size=Z:=⟨_,rfl⟩;have hU3:U.heap.size≤gz:=Nat.le_of_eq hgz;rw[hgz] at ZB hnb ⊢;clear hw4 hgz bz b5 r4 r5 E4 hva hsz;refine rdw9 11 λK hK=>?_
    refine wstore_part 33 (.tmp 14) (.tmp 45) gz 0 33 [] (vv zVv) [] (vv z) rfl (by rw[List.nil_append,List.append_nil];exact ZB) rfl (by rw[vv_len hvw.ll,vv_len (x:=zVv) (by rfl)]) (vv_size hvw.ll) (vv_one z) rfl rfl ?_;intro wz a1 a2 a3;have BZ:=hid (show Blk wz gz 33 (vv z) by have:=a1.out;rwa [List.nil_append,List.append_nil] at this);have belz:Below U.heap.size U wz:=bel5.trans (a2.out.below hU3 bel5.size);have EZ:=hid (E1.out.below belz);have WZ:=hid (show VvW wz z from⟨HV.out.ll,HV.out.lb,HV.out.s.kept (F:=λk=>k=gz) ⟨a2.out.os,a2.out.tape,a2.out.output,a2.out.size,λk hk hf=>a2.out.block k hk hf⟩ (λh ad e=>hnb h ad e),HV.out.sb,HV.out.sn⟩);refine hK.out _ _ (RS.out wz EZ.out) (λ_=>?_);clear hK K;refine wpAnyH_done (by kernel_rfl) ?_ _;go_simp;go_wp2_with fail
    go_meet
    exact⟨gz,z,rfl,hvt,WZ.out,BZ.out,V1.out.below belz,VB1.out.below belz VB1.out.lt,EZ.out⟩
  case rest=>
   obtain⟨gv2,u,rfl,hut,huw,hub,hvw,hvb,he⟩:=hcut;have HUT:=hid hut;have UW:=hid huw;have UB:=hid hub;have VW:=hid hvw;have VB:=hid hvb;have E3:=hid he;clear hut huw hub hvw hvb he E2 CY;obtain⟨kx,hkx,hkX⟩:=one_key HGX.out;obtain⟨ky,hky,hkY⟩:=one_key HGY.out;have QV:=hid (show v.p=((5:Nat):Int)∧v.f=((0:Nat):Int)∧v.l=l∧v.s=lsigN (secI s 0) (secS s 0) 1 q (textV (anE x) 5 l) from by
    have h:=HVT.out;unfold Vv.vt at h;simp only[Vt.mk.injEq] at h;exact⟨h.1,h.2.1,h.2.2.1,h.2.2.2⟩)
   have QU:=hid (show u.p=((5:Nat):Int)∧u.f=((0:Nat):Int)∧u.l=l∧u.s=lsigN (secI s' 0) (secS s' 0) 1 q (textV (anE y) 5 l) from by
    have h:=HUT.out;unfold Vv.vt at h;simp only[Vt.mk.injEq] at h;exact⟨h.1,h.2.1,h.2.2.1,h.2.2.2⟩)
   have SLV:=hid (show v.s.length≤100000 from by rw[QV.out.2.2.2,show(lsigN (secI s 0) (secS s 0) 1 q (textV (anE x) 5 l)).length=4460 from lsigN_length _ _ 1 q _ hq];decide);have SLU:=hid (show u.s.length≤100000 from by rw[QU.out.2.2.2,show(lsigN (secI s' 0) (secS s' 0) 1 q (textV (anE y) 5 l)).length=4460 from lsigN_length _ _ 1 q _ hq];decide);have CH:=hid (λ(z:Gv) (k:Ky) (r:Nat) (t:Vv) (W:World) (bz:begB z=true) (hz:z.ks=[k]) (hkr:k.X=keyM r 0) (gz:GvW W z) (vt:VvW W t) (hb:Below w.heap.size w W) (h1:t.p=((5:Nat):Int)) (h2:t.f=((0:Nat):Int)) (h3:t.l=l) (h4:t.s=lsigN (secI r 0) (secS r 0) 1 q (textV (anE z) 5 l)) (h5:t.s.length≤100000)=>
    show Calls Tryz.prog 7 #[.agg (gv z).toArray,.agg (vv t).toArray] W λe w'=>e= .returned (.int .i64 0)∧Below W.heap.size W w' from by
     have h:=vCheck_yes z t 1 0 5 k W gz vt (HKI.out W hb) (HK.out W hb) bz (by rw[hz];rfl) h2 (by decide) h1 (by decide) (by decide) (by rw[hz];rfl) h5;rw[h3,h4,hkr,hold_make r q _ hq] at h;exact h)
   have FV:=hid (vv_size VW.out.ll);have FU:=hid (vv_size UW.out.ll);obtain⟨sb,hsb⟩:∃ z,decide (v.s=u.s)=z:=⟨_,rfl⟩;have VSB:=hid (show sameV v.vt u.vt=sb from by
    rw[←hsb]
    show((v.p == u.p) && ((v.f == u.f) && (decide (v.l=u.l) && decide (v.s=u.s))))=_
    rw[QV.out.1,QU.out.1,QV.out.2.1,QU.out.2.1,QV.out.2.2.1,QU.out.2.2.1];simp)
   have STB:=hid (show((str v.s).toList == (str u.s).toList)=sb from(str_beqT v.s u.s VW.out.sb UW.out.sb).trans hsb);clear hsb;have SM:=hid (gSameR_t x y wc E3.out.gx E3.out.gy);have SE:=hid (λ(h:sameE x.ge y.ge=true)=>show x.ge=y.ge from sameE_iff.1 h);obtain⟨sm,hsm⟩:∃ z,sameE x.ge y.ge=z:=⟨_,rfl⟩;rw[hsm] at SM SE;clear hsm;have A3:=hid E3.out.a;have B3:=hid E3.out.b
   go_wp2_with (first
    |((with_reducible refine load_blk 27 (.tmp 9) ga 27 (gv x) _ rfl rfl ?_ Tryz.underlying27 ?_ ?_ ?_ ?_);exact A3.out;exact rfl;exact FX_x.out;exact rfl)
    |((with_reducible refine load_blk 27 (.tmp 11) gb 27 (gv y) _ rfl rfl ?_ Tryz.underlying27 ?_ ?_ ?_ ?_);exact B3.out;exact rfl;exact FX_y.out;exact rfl))
   refine SM.out.mono ?_
   rintro e w6 ⟨rfl,b6⟩
   have E6:=hid (E3.out.below b6);have V6:=hid (VW.out.below b6);have U6:=hid (UW.out.below b6);have VB6:=hid (VB.out.below b6 VB.out.lt);have UB6:=hid (UB.out.below b6 UB.out.lt);have A6:=hid E6.out.a;have C6:=hid (CH.out x kx s v w6 BGX.out hkx hkX E6.out.gx V6.out E6.out.bel QV.out.1 QV.out.2.1 QV.out.2.2.1 QV.out.2.2.2 SLV.out);clear b6 E3 VW UW VB UB A3 B3 SM
   go_wp2_with (first
    |((with_reducible refine load_blk 27 (.tmp 9) ga 27 (gv x) _ rfl rfl ?_ Tryz.underlying27 ?_ ?_ ?_ ?_);exact A6.out;exact rfl;exact FX_x.out;exact rfl)
    |((with_reducible refine load_blk 33 (.tmp 13) gv1 33 (vv v) _ rfl rfl ?_ Tryz.underlying33 ?_ ?_ ?_ ?_);exact VB6.out;exact rfl;exact FV.out;exact rfl))
   refine C6.out.mono ?_
   rintro e w7 ⟨rfl,b7⟩
   have E7:=hid (E6.out.below b7);have V7:=hid (V6.out.below b7);have U7:=hid (U6.out.below b7);have VB7:=hid (VB6.out.below b7 VB6.out.lt);have UB7:=hid (UB6.out.below b7 UB6.out.lt);have B7:=hid E7.out.b;have C7:=hid (CH.out y ky s' u w7 BGY.out hky hkY E7.out.gy U7.out E7.out.bel QU.out.1 QU.out.2.1 QU.out.2.2.1 QU.out.2.2.2 SLU.out);clear b7 E6 V6 U6 VB6 UB6 A6 C6
   go_wp2_with (first
    |((with_reducible refine load_blk_gdO 54 27 (.tmp 11) gb 27 (gv y) _ ?_ ?_ rfl ?_ Tryz.underlying27 ?_ ?_ ?_ ?_);exact rfl;kernel_rfl;exact B7.out;exact rfl;exact FX_y.out;exact rfl)
    |((with_reducible refine load_blk_gdO 55 33 (.tmp 14) gv2 33 (vv u) _ ?_ ?_ rfl ?_ Tryz.underlying33 ?_ ?_ ?_ ?_);exact rfl;kernel_rfl;exact UB7.out;exact rfl;exact FU.out;exact rfl))
   refine C7.out.mono ?_
   rintro e w8 ⟨rfl,b8⟩
   have E8:=hid (E7.out.below b8);have V8:=hid (V7.out.below b8);have U8':=hid (U7.out.below b8);have VB8:=hid (VB7.out.below b8 VB7.out.lt);have UB8:=hid (UB7.out.below b8 UB7.out.lt);clear b8 E7 V7 U7 VB7 UB7 B7 C7
   cases sm with
   |false=>
    clear SE
    go_upto_region 8 with(fail)
    obtain⟨U8,hU⟩:∃ Z,w8.drew=Z:=⟨_,rfl⟩;have bU:Below w8.heap.size w8 U8:=by rw[←hU];exact(Below.refl _ _).drew
    have E:=hid (E8.out.below bU);have V:=hid (V8.out.below bU);have U:=hid (U8'.out.below bU);have VB:=hid (VB8.out.below bU VB8.out.lt);have UB:=hid (UB8.out.below bU UB8.out.lt);have RS:=hid (λY (h:EL w Y w.heap.size ga gb ta tb x y l s s' ⟨pb,po,none⟩ ⟨qb,qo,none⟩) (hv:VvW Y v) (hu:VvW Y u) (h1:Blk Y gv1 33 (vv v)) (h2:Blk Y gv2 33 (vv u))=>show S8 Y w.heap.size ga gv1 gv2 x l v u from⟨rows_of_blk h.a,rows_of_blk h.lk,rows_of_blk h1,rows_of_blk h2,(vv_cells h1 hv.ll).2.2,(vv_cells h2 hu.ll).2.2,hv.s,hu.s⟩);refine wp_region_held (S:=λY=>S8 Y w.heap.size ga gv1 gv2 x l v u) (by kernel_rfl) ?_;change wpAnyH _ _ _ _ _ _ _ _ w8.drew;rw[hU];clear hU bU;have r1:=RS.out U8 E.out V.out U.out VB.out UB.out;refine rd9 0 λK hK=>?_
    go_simp;refine(TO.out U8 E.out.bel).mono ?_
    rintro e wa ⟨rfl,ba⟩
    have Ea:=hid (E.out.below ba);have Va:=hid (V.out.below ba);have Ua:=hid (U.out.below ba);have VBa:=hid (VB.out.below ba VB.out.lt);have UBa:=hid (UB.out.below ba UB.out.lt);have ra:=RS.out wa Ea.out Va.out Ua.out VBa.out UBa.out;refine hK.out _ _ ra (λ_=>?_);clear hK K ba E V U VB UB r1;refine tka9 1 ra ?_;refine tkg9 2 (v:= .agg (vv v).toArray) (yieldsIf_load_mid (by kernel_rfl) 33 (.tmp 13) rfl gv1 0 (by go_simp) (vv v) _ (λ_ h=>h.rv) Tryz.underlying33 rfl (FV.out)) ra ?_;refine tkg9 3 (v:= .agg (vv u).toArray) (yieldsIf_load_mid (by kernel_rfl) 33 (.tmp 14) rfl gv2 0 (by go_simp) (vv u) _ (λ_ h=>h.ru) Tryz.underlying33 rfl (FU.out)) ra ?_;refine tka9 5 ra ?_;refine tk9 6 ?_ ?_ ra ?_;rotate_left 1
    ·(intro w hS;have hs:=hS.cv;clear hS;go_simp;try (with_reducible rfl))
    refine tk9 7 ?_ ?_ ra ?_;rotate_left 1
    ·(intro w hS;have hs:=hS.sv.conv rfl v.c;clear hS;go_simp;try (with_reducible rfl))
    refine tka9 8 ra ?_;refine tk9 9 ?_ ?_ ra ?_;rotate_left 1
    ·(intro w hS;have hs:=hS.cu;clear hS;go_simp;try (with_reducible rfl))
    refine tk9 10 ?_ ?_ ra ?_;rotate_left 1
    ·(intro w hS;have hs:=hS.su.conv rfl u.c;clear hS;go_simp;try (with_reducible rfl))
    refine tk9 11 ?_ ?_ ra ?_;rotate_left 1
    ·(intro w hS;have hs:=(STB.out);clear hS;go_simp;try (with_reducible rfl))
    have VSM:=hid (vSame_t v u wa Va.out Ua.out);rw[VSB.out] at VSM;refine rd9 4 λK hK=>?_
    go_simp;refine VSM.out.mono ?_
    rintro e wb ⟨rfl,bb⟩
    have Eb:=hid (Ea.out.below bb);have Vb:=hid (Va.out.below bb);have Ub:=hid (Ua.out.below bb);have VBb:=hid (VBa.out.below bb VBa.out.lt);have UBb:=hid (UBa.out.below bb UBa.out.lt);have rb:=RS.out wb Eb.out Vb.out Ub.out VBb.out UBb.out;refine hK.out _ _ rb (λ_=>?_);clear hK K bb Ea Va Ua VBa UBa ra VSM;refine tka9 12 rb ?_;refine tka9 13 rb ?_;refine tka9 14 rb ?_;refine tkg9 15 (v:= .agg (gv x).toArray) (yieldsIf_load_mid (by kernel_rfl) 27 (.tmp 9) rfl ga 0 (by go_simp) (gv x) _ (λ_ h=>h.ra) Tryz.underlying27 rfl (FX_x.out)) rb ?_;refine tkg9 16 (v:= .agg (u8s l).toArray) (yieldsIf_load_mid (by kernel_rfl) 23 (.tmp 6) rfl w.heap.size 0 (by go_simp) (u8s l) _ (λ_ h=>h.rl) Tryz.underlying23 rfl (ZL.out)) rb ?_;refine tka9 17 rb ?_;refine tk9 18 ?_ ?_ rb ?_;rotate_left 1
    ·(intro w hS;have hs:=hS.cv;clear hS;go_simp;try (with_reducible rfl))
    obtain⟨vq,hvq⟩:∃ t:Vv,(⟨5,1,l,v.A,v.c,v.s⟩:Vv)=t:=⟨_,rfl⟩;have VQE:=hid (show vv vq=Value.int .i64 5:: .int .i64 1::(u8s l++[.slice v.A v.s.length v.c]) from by rw[←hvq];rfl);have VQW:=hid (show VvW wb vq from by rw[←hvq];exact⟨HL.out,HLB.out,Vb.out.s,Vb.out.sb,Vb.out.sn⟩);have VQF:=hid (show(1:Int)≤vq.f from by rw[←hvq];exact Int.le_refl _);clear hvq;refine rdw9 19 λK hK=>?_
    refine wbuild4V 33 (.const (.int .i64 5)) (.const (.int .i64 1)) (.tmp 90) (.tmp 92) rfl (vv vq) (.int .i64 5) (.int .i64 1) (.agg (u8s l).toArray) (.slice v.A v.s.length v.c) (by go_simp) (by go_simp) (by go_simp) (by go_simp) (by rw[VQE.out];exact built_vote _ _ _ _ _ _ HL.out) ?_;refine hK.out _ _ rb (λ_=>?_);clear hK K;have CB:=hid (vCheck_bad x vq 1 wb Eb.out.gx VQW.out (HKI.out wb Eb.out.bel) BGX.out (by rw[hkx];rfl) (.inr (.inl VQF.out)));refine rd9 20 λK hK=>?_
    go_simp;refine CB.out.mono ?_
    rintro e wy ⟨rfl,by_⟩
    have Ey:=hid (Eb.out.below by_);have Vy:=hid (Vb.out.below by_);have Uy:=hid (Ub.out.below by_);have VBy:=hid (VBb.out.below by_ VBb.out.lt);have UBy:=hid (UBb.out.below by_ UBb.out.lt);have ry:=RS.out wy Ey.out Vy.out Uy.out VBy.out UBy.out;refine hK.out _ _ ry (λ_=>?_);clear hK K by_ Eb Vb Ub VBb UBb rb CB;refine tka9 21 ry ?_;refine tka9 22 ry ?_;refine tka9 23 ry ?_;refine wpAnyH_done (by kernel_rfl) ?_ _;go_simp;go_wp2_with fail
    go_ret;exact⟨rfl,Ey.out.bel⟩
   |true=>
    have hge:=SE.out rfl;have hkk:keyM s 0=keyM s' 0:=by
     have h:=congrArg (λe=>e.ks) hge;have h1:x.ge.ks=y.ge.ks:=h;rw[HGX.out,HGY.out] at h1
     simpa using h1
    have hae:=anE_ge hge;have B8:=hid E8.out.b;have C8:=hid (CH.out y ky s v w8 BGY.out hky (hkY.trans hkk.symm) E8.out.gy V8.out E8.out.bel QV.out.1 QV.out.2.1 QV.out.2.2.1 (by rw[←hae];exact QV.out.2.2.2) SLV.out)
    go_wp2_with (first
     |((with_reducible refine load_blk_gdO 62 27 (.tmp 11) gb 27 (gv y) _ ?_ ?_ rfl ?_ Tryz.underlying27 ?_ ?_ ?_ ?_);exact rfl;kernel_rfl;exact B8.out;exact rfl;exact FX_y.out;exact rfl)
     |((with_reducible refine load_blk_gdO 63 33 (.tmp 13) gv1 33 (vv v) _ ?_ ?_ rfl ?_ Tryz.underlying33 ?_ ?_ ?_ ?_);exact rfl;kernel_rfl;exact VB8.out;exact rfl;exact FV.out;exact rfl))
    refine C8.out.mono ?_
    rintro e w9 ⟨rfl,b9⟩
    have E9:=hid (E8.out.below b9);have V9:=hid (V8.out.below b9);have U9:=hid (U8'.out.below b9);have VB9:=hid (VB8.out.below b9 VB8.out.lt);have UB9:=hid (UB8.out.below b9 UB8.out.lt);have A9:=hid E9.out.a;have C9:=hid (CH.out x kx s' u w9 BGX.out hkx (hkX.trans hkk) E9.out.gx U9.out E9.out.bel QU.out.1 QU.out.2.1 QU.out.2.2.1 (by rw[hae];exact QU.out.2.2.2) SLU.out);clear b9 E8 V8 U8' VB8 UB8 B8 C8 hge hkk hae SE
    go_wp2_with (first
     |((with_reducible refine load_blk_gdO 67 27 (.tmp 9) ga 27 (gv x) _ ?_ ?_ rfl ?_ Tryz.underlying27 ?_ ?_ ?_ ?_);exact rfl;kernel_rfl;exact A9.out;exact rfl;exact FX_x.out;exact rfl)
     |((with_reducible refine load_blk_gdO 68 33 (.tmp 14) gv2 33 (vv u) _ ?_ ?_ rfl ?_ Tryz.underlying33 ?_ ?_ ?_ ?_);exact rfl;kernel_rfl;exact UB9.out;exact rfl;exact FU.out;exact rfl))
    refine C9.out.mono ?_
    rintro e wd ⟨rfl,bd⟩
    have Ed:=hid (E9.out.below bd);have Vd:=hid (V9.out.below bd);have Ud:=hid (U9.out.below bd);have VBd:=hid (VB9.out.below bd VB9.out.lt);have UBd:=hid (UB9.out.below bd UB9.out.lt);clear bd E9 V9 U9 VB9 UB9 A9 C9
    go_upto_region 8 with(fail)
    obtain⟨U8,hU⟩:∃ Z,wd.drew=Z:=⟨_,rfl⟩;have bU:Below wd.heap.size wd U8:=by rw[←hU];exact(Below.refl _ _).drew
    have E:=hid (Ed.out.below bU);have V:=hid (Vd.out.below bU);have U:=hid (Ud.out.below bU);have VB:=hid (VBd.out.below bU VBd.out.lt);have UB:=hid (UBd.out.below bU UBd.out.lt);have RS:=hid (λY (h:EL w Y w.heap.size ga gb ta tb x y l s s' ⟨pb,po,none⟩ ⟨qb,qo,none⟩) (hv:VvW Y v) (hu:VvW Y u) (h1:Blk Y gv1 33 (vv v)) (h2:Blk Y gv2 33 (vv u))=>show S8 Y w.heap.size ga gv1 gv2 x l v u from⟨rows_of_blk h.a,rows_of_blk h.lk,rows_of_blk h1,rows_of_blk h2,(vv_cells h1 hv.ll).2.2,(vv_cells h2 hu.ll).2.2,hv.s,hu.s⟩);refine wp_region_held (S:=λY=>S8 Y w.heap.size ga gv1 gv2 x l v u) (by kernel_rfl) ?_;change wpAnyH _ _ _ _ _ _ _ _ wd.drew;rw[hU];clear hU bU;have r1:=RS.out U8 E.out V.out U.out VB.out UB.out;refine rd9 0 λK hK=>?_
    go_simp;refine(TO.out U8 E.out.bel).mono ?_
    rintro e wa ⟨rfl,ba⟩
    have Ea:=hid (E.out.below ba);have Va:=hid (V.out.below ba);have Ua:=hid (U.out.below ba);have VBa:=hid (VB.out.below ba VB.out.lt);have UBa:=hid (UB.out.below ba UB.out.lt);have ra:=RS.out wa Ea.out Va.out Ua.out VBa.out UBa.out;refine hK.out _ _ ra (λ_=>?_);clear hK K ba E V U VB UB r1;refine tka9 1 ra ?_;refine tkg9 2 (v:= .agg (vv v).toArray) (yieldsIf_load_mid (by kernel_rfl) 33 (.tmp 13) rfl gv1 0 (by go_simp) (vv v) _ (λ_ h=>h.rv) Tryz.underlying33 rfl (FV.out)) ra ?_;refine tkg9 3 (v:= .agg (vv u).toArray) (yieldsIf_load_mid (by kernel_rfl) 33 (.tmp 14) rfl gv2 0 (by go_simp) (vv u) _ (λ_ h=>h.ru) Tryz.underlying33 rfl (FU.out)) ra ?_;refine tka9 5 ra ?_;refine tk9 6 ?_ ?_ ra ?_;rotate_left 1
    ·(intro w hS;have hs:=hS.cv;clear hS;go_simp;try (with_reducible rfl))
    refine tk9 7 ?_ ?_ ra ?_;rotate_left 1
    ·(intro w hS;have hs:=hS.sv.conv rfl v.c;clear hS;go_simp;try (with_reducible rfl))
    refine tka9 8 ra ?_;refine tk9 9 ?_ ?_ ra ?_;rotate_left 1
    ·(intro w hS;have hs:=hS.cu;clear hS;go_simp;try (with_reducible rfl))
    refine tk9 10 ?_ ?_ ra ?_;rotate_left 1
    ·(intro w hS;have hs:=hS.su.conv rfl u.c;clear hS;go_simp;try (with_reducible rfl))
    refine tk9 11 ?_ ?_ ra ?_;rotate_left 1
    ·(intro w hS;have hs:=(STB.out);clear hS;go_simp;try (with_reducible rfl))
    have VSM:=hid (vSame_t v u wa Va.out Ua.out);rw[VSB.out] at VSM;refine rd9 4 λK hK=>?_
    go_simp;refine VSM.out.mono ?_
    rintro e wb ⟨rfl,bb⟩
    have Eb:=hid (Ea.out.below bb);have Vb:=hid (Va.out.below bb);have Ub:=hid (Ua.out.below bb);have VBb:=hid (VBa.out.below bb VBa.out.lt);have UBb:=hid (UBa.out.below bb UBa.out.lt);have rb:=RS.out wb Eb.out Vb.out Ub.out VBb.out UBb.out;refine hK.out _ _ rb (λ_=>?_);clear hK K bb Ea Va Ua VBa UBa ra VSM;refine tka9 12 rb ?_;refine tka9 13 rb ?_;refine tka9 14 rb ?_;refine tkg9 15 (v:= .agg (gv x).toArray) (yieldsIf_load_mid (by kernel_rfl) 27 (.tmp 9) rfl ga 0 (by go_simp) (gv x) _ (λ_ h=>h.ra) Tryz.underlying27 rfl (FX_x.out)) rb ?_;refine tkg9 16 (v:= .agg (u8s l).toArray) (yieldsIf_load_mid (by kernel_rfl) 23 (.tmp 6) rfl w.heap.size 0 (by go_simp) (u8s l) _ (λ_ h=>h.rl) Tryz.underlying23 rfl (ZL.out)) rb ?_;refine tka9 17 rb ?_;refine tk9 18 ?_ ?_ rb ?_;rotate_left 1
    ·(intro w hS;have hs:=hS.cv;clear hS;go_simp;try (with_reducible rfl))
    obtain⟨vq,hvq⟩:∃ t:Vv,(⟨5,1,l,v.A,v.c,v.s⟩:Vv)=t:=⟨_,rfl⟩;have VQE:=hid (show vv vq=Value.int .i64 5:: .int .i64 1::(u8s l++[.slice v.A v.s.length v.c]) from by rw[←hvq];rfl);have VQW:=hid (show VvW wb vq from by rw[←hvq];exact⟨HL.out,HLB.out,Vb.out.s,Vb.out.sb,Vb.out.sn⟩);have VQF:=hid (show(1:Int)≤vq.f from by rw[←hvq];exact Int.le_refl _);clear hvq;refine rdw9 19 λK hK=>?_
    refine wbuild4V 33 (.const (.int .i64 5)) (.const (.int .i64 1)) (.tmp 90) (.tmp 92) rfl (vv vq) (.int .i64 5) (.int .i64 1) (.agg (u8s l).toArray) (.slice v.A v.s.length v.c) (by go_simp) (by go_simp) (by go_simp) (by go_simp) (by rw[VQE.out];exact built_vote _ _ _ _ _ _ HL.out) ?_;refine hK.out _ _ rb (λ_=>?_);clear hK K;have CB:=hid (vCheck_bad x vq 1 wb Eb.out.gx VQW.out (HKI.out wb Eb.out.bel) BGX.out (by rw[hkx];rfl) (.inr (.inl VQF.out)));refine rd9 20 λK hK=>?_
    go_simp;refine CB.out.mono ?_
    rintro e wy ⟨rfl,by_⟩
    have Ey:=hid (Eb.out.below by_);have Vy:=hid (Vb.out.below by_);have Uy:=hid (Ub.out.below by_);have VBy:=hid (VBb.out.below by_ VBb.out.lt);have UBy:=hid (UBb.out.below by_ UBb.out.lt);have ry:=RS.out wy Ey.out Vy.out Uy.out VBy.out UBy.out;refine hK.out _ _ ry (λ_=>?_);clear hK K by_ Eb Vb Ub VBb UBb rb CB;refine tka9 21 ry ?_;refine tka9 22 ry ?_;refine tka9 23 ry ?_;refine wpAnyH_done (by kernel_rfl) ?_ _;go_simp;go_wp2_with fail
    go_ret;exact⟨rfl,Ey.out.bel⟩
end Go.Proofs.YtjlophplcmidlaaGreatDoor
