/-
  VoteChecks walked
-/
import Derived.Test.YtjlophplcmidlaaGreatDoorAd40
import Derived.Test.YtjlophplcmidlaaGreatDoorAd45
import Derived.Test.YtjlophplcmidlaaGreatDoorTk
open Go.Lib (hid)
set_option maxRecDepth 100000
namespace Go.Proofs.YtjlophplcmidlaaGreatDoor
open Go Go.RowKit Sh
theorem u64_natR (p:Int):∃ a:Nat,IntKind.u64.wrap p=(a:Int):=by
 have h0:0≤IntKind.u64.wrap p:=by simp[IntKind.wrap,IntKind.bits,IntKind.signed];omega
 exact⟨(IntKind.u64.wrap p).toNat,by omega⟩
theorem mod_two (m:Nat) (hm:0<m) (hm2:m≤1000000) (n:Int):∃ k:Nat,k<m∧wrap64 ((IntKind.u64.wrap n).tmod (m:Int))=(k:Int)∧IntKind.i64.wrap ((IntKind.u64.wrap n).tmod (m:Int))=(k:Int):=by
 obtain⟨k,hk,he⟩:=mod_bigTX m hm hm2 n;refine⟨k,hk,he,?_⟩;unfold wrap64 at he
 generalize (IntKind.u64.wrap n).tmod (m:Int)=z at he ⊢
 simp[IntKind.wrap,IntKind.bits,IntKind.signed];omega
structure EC (w0 W:World) (gl ga ta:Nat) (x:Gv) (l:List Nat) (s:Nat) (pa:Addr):Prop where
 lk:Blk W gl 23 (u8s l)
 a:Blk W ga 27 (gv x)
 gx:GvW W x
 tx:Blk W ta 62 (treeM s 0)
 la:pa.block<W.heap.size
 ca:W.cell? pa=some (.pointer (some ⟨ta,0,none⟩))
 bel:Below w0.heap.size w0 W
theorem EC.below {w0 W W':World} {gl ga ta:Nat} {x:Gv} {l:List Nat} {s:Nat} {pa:Addr} (h:EC w0 W gl ga ta x l s pa) (hb:Below W.heap.size W W'):EC w0 W' gl ga ta x l s pa:=
 ⟨h.lk.below hb h.lk.lt,h.a.below hb h.a.lt,h.gx.below hb,h.tx.below hb h.tx.lt,Nat.lt_of_lt_of_le h.la hb.size,(hb.cell h.la).trans h.ca,h.bel.trans (hb.mono h.bel.size)⟩
theorem EC.here {w0 W:World} {gl ga ta:Nat} {x:Gv} {l:List Nat} {s:Nat} {pa:Addr} (h:EC w0 W gl ga ta x l s pa):EC W W gl ga ta x l s pa:=
 ⟨h.lk,h.a,h.gx,h.tx,h.la,h.ca,Below.refl _ _⟩
theorem form_ofR {P M S:List Nat} (h:verN P M S=0):formN P=true:=by
 unfold verN at h
 split at h
 ·assumption
 ·cases h
theorem begB_makeR {x:Gv} {s:Nat} (h:x.ge=⟨0,15,15,[keyM s 0],[]⟩):begB x=true:=by
 rw[begB_Q,h];have hf:formN (keyM s 0)=true:=form_ofR (verN_sign (secI s 0) (secS s 0) 1 0 [] (by decide) (by decide) (secI_length s 0));unfold begQ mayK stQ;simp only[List.length_cons,List.length_nil,List.all_cons,List.all_nil,hf];rfl
theorem hold_makeR (s q:Nat) (T:List Nat) (hq:q<32):verN (keyM s 0) T (lsigN (secI s 0) (secS s 0) 1 q T)=0:=verN_sign (secI s 0) (secS s 0) 1 q T (by decide) hq (secI_length s 0)
theorem one_keyR {x:Gv} {f r q:Int} {k:List Nat} {st:List Nat} (h:x.ge=⟨f,r,q,[k],st⟩):∃ y:Ky,x.ks=[y]∧y.X=k:=by
 have h1:x.ks.map (·.X)=[k]:=congrArg (λe=>e.ks) h
 match hk:x.ks,h1 with
 |[y],h1=>exact⟨y,rfl,by simpa using h1⟩
theorem vv_set34 (v:Vv) (A:Option Addr) (c n:Nat) (s':List Nat) (hl:v.l.length=32) (hn:s'.length=n):(vv v).set 34 (.slice A n c)=vv { v with A:=A,c:=c,s:=s' } :=by
 unfold vv;subst hn
 show _::_::(u8s v.l++[Value.slice v.A v.s.length v.c]).set 32 _=_
 rw[List.set_append_right _ _ (by rw[u8s_length,hl];exact Nat.le_refl _),u8s_length,hl];rfl
theorem vv_setL (v:Vv) (k y:Nat) (hk:k<v.l.length):(vv v).set (2+k) (.int .u8 (y:Int))=vv { v with l:=v.l.set k y } :=by
 rw[Nat.add_comm];unfold vv
 show _::_::(u8s v.l++[Value.slice v.A v.s.length v.c]).set k _=_
 rw[List.set_append_left _ _ (by rw[u8s_length];exact hk),u8s_set]
theorem vv_atL {W:World} {g:Nat} {t:TypeId} {v:Vv} (h:Blk W g t (vv v)) (k:Nat) (hk:k<v.l.length):W.cell? ⟨g,2+k,none⟩=some (.int .u8 ((gt v.l k:Nat):Int)):=by
 rw[h.cell,Nat.add_comm];unfold vv
 show(u8s v.l++[Value.slice v.A v.s.length v.c])[k]? =_
 rw[List.getElem?_append_left (by rw[u8s_length];exact hk),u8s_get _ _ hk]
theorem set_bytesR {l:List Nat} (hb:Bytes l) (j x:Nat) (hx:x<256):Bytes (l.set j (gt l j ^^^ x)):=sl_bytes (λy hy=>by
  rcases List.mem_or_eq_of_mem_set hy with h |rfl
  ·obtain⟨q,hq,rfl⟩:=List.getElem_of_mem h;have:=hb q
   rwa [gt_of_lt hq] at this
  ·exact Nat.xor_lt_two_pow (n:=8) (hb j) hx)
structure FS (w0 W:World) (h1 h2:Nat) (x:Gv) (v:Vv):Prop where
 bv:Blk W h1 33 (vv v)
 bg:Blk W h2 27 (gv x)
 gx:GvW W x
 gc:GvC x
 st:x.st.length≤900000
 vw:VvW W v
 sl:v.s.length≤100000
 sc:v.s.length≤v.c
 bel:Below w0.heap.size w0 W
theorem FS.below {w0 W W':World} {h1 h2:Nat} {x:Gv} {v:Vv} (h:FS w0 W h1 h2 x v) (hb:Below W.heap.size W W'):FS w0 W' h1 h2 x v:=
 ⟨h.bv.below hb h.bv.lt,h.bg.below hb h.bg.lt,h.gx.below hb,h.gc,h.st,h.vw.below hb,h.sl,h.sc,h.bel.trans (hb.mono h.bel.size)⟩
theorem app14 {wc w11:World} {h1:Nat} {v:Vv} {v3:Value} (W1:Blk wc h1 33 (vv v)) (hl:v.l.length=32)
  (a1:w11.ownsRow wc.heap.size 5 1 v3 (0+4460) (u8s ([]++v.s))) (a2:(wc.alloc (.cells #[] 5)).grownBy w11 (Value.slice (some ⟨wc.heap.size,0,none⟩) 0 0).ownBlock):
  ∃ gu c5,v3= .slice (some ⟨gu,0,none⟩) 4460 c5∧Hid (4460≤c5)∧Hid (Below wc.heap.size wc w11)∧Hid (w11.ownsRow wc.heap.size 5 1 (.slice (some ⟨gu,0,none⟩) 4460 c5) 4460 (u8s v.s))∧
   w11.cell? ⟨h1,34,none⟩=some (.slice v.A v.s.length v.c)∧w11.frozen? ⟨h1,34,none⟩=false:=by
 have bk1:Below wc.heap.size wc w11:=((Below.refl wc.heap.size wc).alloc (Nat.le_refl _) (.cells #[] 5)).grown a2 (by simp) (λk e=>by have:=Option.some.inj e;simp at this;omega);have O:=own_zeroX a1;obtain⟨gu,c5,rfl,hc5⟩:=own_formTX O (by decide);have W:=W1.below bk1 W1.lt;exact⟨gu,c5,rfl,hid hc5,hid bk1,hid O,(vv_cells W hl).2.2,W.frozen 34⟩
set_option maxHeartbeats 4000000 in
theorem vchecks_t (a b:Int) (l:List Nat) (c d e9:Int) (xx:Nat) (w:World) (hl:l.length=32) (hlb:Bytes l) (hx8:xx<256) (hk:KAt w) (hki:KI w):
  Calls Tryz.prog 3 #[.int .i64 a,.int .i64 b,.agg (u8s l).toArray,.int .i64 c,.int .i64 d,.int .i64 e9,.int .u8 (xx:Int)] w λe w'=>e= .returned (.bool true)∧Below w.heap.size w w':=by
 obtain⟨s,hs⟩:=u64_natR a;obtain⟨q,hq,_,hqe⟩:=mod_two 32 (by decide) (by decide) c;obtain⟨p0,hp0,hpe,_⟩:=mod_two 1000 (by decide) (by decide) b;obtain⟨kk,hkk,hke,_⟩:=mod_two 7 (by decide) (by decide) d;rw[show((32:Nat):Int)=32 from rfl] at hqe;rw[show((1000:Nat):Int)=1000 from rfl] at hpe;rw[show((7:Nat):Int)=7 from rfl] at hke;have HL:=hid hl;have HLB:=hid hlb;have MA:=hid (λW=>make_t 0 s a W (by decide) hs);rw[show((0:Nat):Int)=0 from rfl] at MA;have TO:=hid (λW (h:Below w.heap.size w W)=>told13_t W (hki.kept h) (hk.below h hk.lt));have HK:=hid (λW (h:Below w.heap.size w W)=>hk.below h hk.lt);have HKI:=hid (λW (h:Below w.heap.size w W)=>hki.kept h);have L0:=hid (Blk.new w 23 (u8s l));have B0:=hid ((Below.refl w.heap.size w).alloc (Nat.le_refl _) (.cells (u8s l).toArray 23));have HKE:=hid hke;clear hl hlb hs hk hki hke
 go_enter Tryz.func3,Tryz.ntmps3
 go_wp2_with fail
 refine(MA.out _).mono ?_
 rintro e w1 ⟨x,lp,lc,ts,rfl,hts,hge,gx,gcx,rl,tr,b1⟩
 obtain⟨ta,rfl⟩:∃ t,ts=[t]:=by
  match ts,hts with
  |[t],_=>exact⟨t,rfl⟩
 have T1:=hid (tr 0 ta rfl).2;obtain⟨pb,po,hlp,hpl,hpr⟩:=rl 0 ta rfl;subst hlp;have P1:=hid (show w1.cell? ⟨pb,po,none⟩=some (.pointer (some ⟨ta,0,none⟩)) from by have:=hpr 0 _ rfl;simpa using this);have hpl1:pb<w1.heap.size:=hpl;have HGX:=hid (show x.ge=⟨0,15,15,[keyM s 0],[]⟩ from hge);have GX:=hid gx;have GCX:=hid gcx;have L1:=hid (L0.out.below b1 L0.out.lt);have B1:=hid (B0.out.trans (b1.mono B0.out.size));clear hts hge gx gcx rl tr b1 hpl hpr L0 B0 MA;have FX_x:=hid (gv_size x);have FO_x:=hid (gv_one x);have Z_x:=hid (Blk.new w1 27 (gv zGv));have K_x:=hid (Z_x.out.setRow (gv x));have B_x:=hid (below_setRow ((Below.refl (w1).heap.size w1).alloc (Nat.le_refl _) (.cells (gv zGv).toArray 27)) (Nat.le_refl _) (gv x).toArray)
 go_upto_region 2 with((with_reducible refine at_op (.store 27 (.tmp 15) (.tmp 24)) rfl ?_);go_must (refine store_blk 27 (.tmp 15) (.tmp 24) (w1).heap.size 27 (gv zGv) (gv x) rfl rfl Z_x.out rfl FX_x.out FO_x.out rfl rfl ?_))
 obtain⟨V1,hV1⟩:∃ V,((w1).alloc (.cells (gv zGv).toArray 27)).setRow (w1).heap.size (gv x).toArray=V:=⟨_,rfl⟩;change Code.wp _ _ _ _ (((w1).alloc (.cells (gv zGv).toArray 27)).setRow (w1).heap.size (gv x).toArray);rw[hV1] at K_x B_x ⊢;clear hV1 Z_x FO_x;have E0:=hid (show EC w V1 w.heap.size w1.heap.size ta x l s ⟨pb,po,none⟩ from
  ⟨L1.out.below B_x.out L1.out.lt,K_x.out,GX.out.below B_x.out,T1.out.below B_x.out T1.out.lt,Nat.lt_of_lt_of_le hpl1 B_x.out.size,(B_x.out.cell (p:=⟨pb,po,none⟩) hpl1).trans P1.out,B1.out.trans (B_x.out.mono B1.out.size)⟩)
 obtain⟨ga,hga⟩:∃ z,w1.heap.size=z:=⟨_,rfl⟩;rw[hga] at E0 ⊢;clear hga K_x B_x T1 P1 GX L1 B1 hpl1;have BGX:=hid (begB_makeR HGX.out);have HST:=hid (show x.st=[] from congrArg (λe=>e.st) HGX.out);obtain⟨p,hp⟩:∃ p,1+p0=p:=⟨_,rfl⟩;have hpp:(1:Int)+(p0:Int)=(p:Int):=by omega
 have p1:p≤1000:=by omega
 have CX:=hid (λW (h:EC W W w.heap.size ga ta x l s ⟨pb,po,none⟩)=>castC_t x s 0 ta p q 0 l W h.gx GCX.out BGX.out (by rw[HST.out];decide) h.tx (by omega) hq HL.out HLB.out);have ZL:=hid (hash_size l HL.out)
 go_upto_region 3 with(fail)
 go_cut [18] (λs9 wx=>∃ (gz:Nat) (z:Vv),s9= .pointer (some ⟨gz,0,none⟩)∧z.vt=⟨(p:Int),0,l,lsigN (secI s 0) (secS s 0) 1 q (textV (anE x) p l)⟩∧z.s.length≤z.c∧w.heap.size≤gz∧VvW wx z∧Blk wx gz 33 (vv z)∧EC w wx w.heap.size ga ta x l s ⟨pb,po,none⟩)
 case first=>
  obtain⟨U,hU⟩:∃ Z,V1.drew=Z:=⟨_,rfl⟩;have bU:Below V1.heap.size V1 U:=by rw[←hU];exact(Below.refl _ _).drew
  have E1:=hid (E0.out.below bU);refine wp_region_held (S:=λY=>Y.rangeAt ga 0 (gv x)∧Y.rangeAt w.heap.size 0 (u8s l)∧Y.cell? ⟨pb,po,none⟩=some (.pointer (some ⟨ta,0,none⟩))) (by kernel_rfl) ?_;change wpAnyH _ _ _ _ _ _ _ _ V1.drew;rw[hU];clear hU bU;have RS:=hid (λY (h:EC w Y w.heap.size ga ta x l s ⟨pb,po,none⟩)=>show Y.rangeAt ga 0 (gv x)∧Y.rangeAt w.heap.size 0 (u8s l)∧Y.cell? ⟨pb,po,none⟩=some (.pointer (some ⟨ta,0,none⟩)) from⟨rows_of_blk h.a,rows_of_blk h.lk,h.ca⟩);have r1:=RS.out U E1.out;have ul:=E1.out.bel.size;refine tkg9 0 (v:= .agg (gv x).toArray) (yieldsIf_load_mid (by kernel_rfl) 27 (.tmp 15) rfl ga 0 (by go_simp) (gv x) _ (λ_ h=>h.1) Tryz.underlying27 rfl (FX_x.out)) r1 ?_;refine tka9 1 r1 ?_;refine tka9 2 r1 ?_;refine tk9 3 ?_ ?_ r1 ?_;rotate_left 1
  ·(intro w hS;have hs:=hS.2.2;clear hS;go_simp;try (with_reducible rfl))
  refine tka9 4 r1 ?_;refine tka9 5 r1 ?_;refine tka9 6 r1 ?_;refine tka9 7 r1 ?_;refine tka9 8 r1 ?_;refine tkg9 9 (v:= .agg (u8s l).toArray) (yieldsIf_load_mid (by kernel_rfl) 23 (.tmp 9) rfl w.heap.size 0 (by go_simp) (u8s l) _ (λ_ h=>h.2.1) Tryz.underlying23 rfl (ZL.out)) r1 ?_;refine wpAnyH_ready (rs:=[10,11]) (by kernel_rfl) (by simp) ?_;refine AllReadyH.cons rfl (λK hK=>?_) (AllReadyH.cons rfl (λK hK=>?_) AllReadyH.nil)
  ·skip
   go_simp;refine(CX.out U E1.out.here).mono ?_
   rintro e w3 ⟨z,rfl,hvt,hvw,hva,hvc,b3⟩
   have E3:=hid (E1.out.below b3);have r3:=RS.out w3 E3.out;refine hK.out _ _ r3 (λ_=>?_);clear hK K;refine rd9 11 λK hK=>?_
   go_simp;have bz:=(Below.refl w3.heap.size w3).alloc (Nat.le_refl _) (.cells (vv zVv).toArray 33);have ZB:=Blk.new w3 33 (vv zVv);have r4:=RS.out _ (E3.out.below bz);refine hK.out _ _ r4 (λ_=>?_);clear hK K;have HV:=hid (hvw.below bz);have hnb:0<z.s.length→∀ ad:Addr,z.A=some ad→ad.block≠w3.heap.size:=λh ad e=>Nat.ne_of_lt (hvw.s.lt h ad e)
   have hU3:U.heap.size≤w3.heap.size:=b3.size;have bel5:=b3.trans (bz.mono b3.size);change wpAnyH _ _ _ _ _ _ _ _ (w3.alloc (.cells (vv zVv).toArray 33));obtain⟨w5,hw5⟩:∃ Z,w3.alloc (.cells (vv zVv).toArray 33)=Z:=⟨_,rfl⟩;obtain⟨gz,hgz⟩:∃ Z,w3.heap.size=Z:=⟨_,rfl⟩;rw[hw5] at ZB HV bel5 ⊢;rw[hgz] at ZB hnb hU3 ⊢;clear hw5 hgz bz b3 r3 r4 E3 hva;refine rdw9 12 λK hK=>?_
   refine wstore_part 33 (.tmp 18) (.tmp 41) gz 0 33 [] (vv zVv) [] (vv z) rfl (by rw[List.nil_append,List.append_nil];exact ZB) rfl (by rw[vv_len hvw.ll,vv_len (x:=zVv) (by rfl)]) (vv_size hvw.ll) (vv_one z) rfl rfl ?_;intro wz a1 a2 a3;have BZ:=hid (show Blk wz gz 33 (vv z) by have:=a1.out;rwa [List.nil_append,List.append_nil] at this);have belz:Below U.heap.size U wz:=bel5.trans (a2.out.below hU3 bel5.size);have EZ:=hid (E1.out.below belz);have WZ:=hid (show VvW wz z from⟨HV.out.ll,HV.out.lb,HV.out.s.kept (F:=λk=>k=gz) ⟨a2.out.os,a2.out.tape,a2.out.output,a2.out.size,λk hk hf=>a2.out.block k hk hf⟩ (λh ad e=>hnb h ad e),HV.out.sb,HV.out.sn⟩);refine hK.out _ _ (RS.out wz EZ.out) (λ_=>?_);clear hK K;refine wpAnyH_done (by kernel_rfl) ?_ _;go_simp;go_wp2_with fail
   go_meet
   exact⟨gz,z,rfl,hvt,hvc,Nat.le_trans ul hU3,WZ.out,BZ.out,EZ.out⟩
  ·skip
   rw[if_pos (by kernel_rfl)];go_simp;have bz:=(Below.refl U.heap.size U).alloc (Nat.le_refl _) (.cells (vv zVv).toArray 33);have ZB:=Blk.new U 33 (vv zVv);have E4:=hid (E1.out.below bz);have r4:=RS.out _ E4.out;refine hK.out _ _ r4 (λ_=>?_);clear hK K;change wpAnyH _ _ _ _ _ _ _ _ (U.alloc (.cells (vv zVv).toArray 33));have hsz:(U.alloc (.cells (vv zVv).toArray 33)).heap.size=U.heap.size+1:=by simp
   obtain⟨w4,hw4⟩:∃ Z,U.alloc (.cells (vv zVv).toArray 33)=Z:=⟨_,rfl⟩;rw[hw4] at bz ZB E4 r4 hsz ⊢;refine rd9 10 λK hK=>?_
   go_simp;refine(CX.out w4 E4.out.here).mono ?_
   rintro e w5 ⟨z,rfl,hvt,hvw,hva,hvc,b5⟩
   have r5:=RS.out w5 (E4.out.below b5);refine hK.out _ _ r5 (λ_=>?_);clear hK K;have HV:=hid hvw;have bel5:=bz.trans (b5.mono bz.size);have ZB:=ZB.below b5 ZB.lt;have hnb:0<z.s.length→∀ ad:Addr,z.A=some ad→ad.block≠U.heap.size:=λ_ ad e=>by have:=hva ad e;omega
   obtain⟨gz,hgz⟩:∃ Z,U.heap.size=Z:=⟨_,rfl⟩;have hU3:U.heap.size≤gz:=Nat.le_of_eq hgz;rw[hgz] at ZB hnb ⊢;clear hw4 hgz bz b5 r4 r5 E4 hva hsz;refine rdw9 12 λK hK=>?_
   refine wstore_part 33 (.tmp 18) (.tmp 41) gz 0 33 [] (vv zVv) [] (vv z) rfl (by rw[List.nil_append,List.append_nil];exact ZB) rfl (by rw[vv_len hvw.ll,vv_len (x:=zVv) (by rfl)]) (vv_size hvw.ll) (vv_one z) rfl rfl ?_;intro wz a1 a2 a3;have BZ:=hid (show Blk wz gz 33 (vv z) by have:=a1.out;rwa [List.nil_append,List.append_nil] at this);have belz:Below U.heap.size U wz:=bel5.trans (a2.out.below hU3 bel5.size);have EZ:=hid (E1.out.below belz);have WZ:=hid (show VvW wz z from⟨HV.out.ll,HV.out.lb,HV.out.s.kept (F:=λk=>k=gz) ⟨a2.out.os,a2.out.tape,a2.out.output,a2.out.size,λk hk hf=>a2.out.block k hk hf⟩ (λh ad e=>hnb h ad e),HV.out.sb,HV.out.sn⟩);refine hK.out _ _ (RS.out wz EZ.out) (λ_=>?_);clear hK K;refine wpAnyH_done (by kernel_rfl) ?_ _;go_simp;go_wp2_with fail
   go_meet
   exact⟨gz,z,rfl,hvt,hvc,Nat.le_trans ul hU3,WZ.out,BZ.out,EZ.out⟩
 case rest=>
  obtain⟨gv1,v,rfl,hvt,hvc,hgl,hvw,hvb,he⟩:=hcut;have HVC:=hid hvc;have VW:=hid hvw;have VB:=hid hvb;have E2:=hid he;have HG1:=hid hgl;have QV:=hid (show v.p=(p:Int)∧v.f=((0:Nat):Int)∧v.l=l∧v.s=lsigN (secI s 0) (secS s 0) 1 q (textV (anE x) p l) from by
   unfold Vv.vt at hvt;simp only[Vt.mk.injEq] at hvt;exact⟨hvt.1,hvt.2.1,hvt.2.2.1,hvt.2.2.2⟩)
  clear hvt hvw hvb he E0 CX hvc hgl;have SLV:=hid (show v.s.length=4460 from by rw[QV.out.2.2.2];exact lsigN_length _ _ 1 q _ hq);obtain⟨kx,hkx,hkX⟩:=one_keyR HGX.out;have C2:=hid (show Calls Tryz.prog 7 #[.agg (gv x).toArray,.agg (vv v).toArray] wc λe w'=>e= .returned (.int .i64 0)∧Below wc.heap.size wc w' from by
   have h:=vCheck_yes x v 1 0 p kx wc E2.out.gx VW.out (HKI.out wc E2.out.bel) (HK.out wc E2.out.bel) BGX.out (by rw[hkx];rfl) QV.out.2.1 (by decide) QV.out.1 (by omega) (by omega) (by rw[hkx];rfl) (by rw[SLV.out];decide);rw[QV.out.2.2.1,QV.out.2.2.2,hkX,hold_makeR s q _ hq] at h;exact h)
  have FV:=hid (vv_size VW.out.ll);have A2:=hid E2.out.a
  go_wp2_with (first
   |((with_reducible refine load_blk 27 (.tmp 15) ga 27 (gv x) _ rfl rfl ?_ Tryz.underlying27 ?_ ?_ ?_ ?_);exact A2.out;exact rfl;exact FX_x.out;exact rfl)
   |((with_reducible refine load_blk 33 (.tmp 18) gv1 33 (vv v) _ rfl rfl ?_ Tryz.underlying33 ?_ ?_ ?_ ?_);exact VB.out;exact rfl;exact FV.out;exact rfl))
  refine C2.out.mono ?_
  rintro e w4 ⟨rfl,b4⟩
  have E4:=hid (E2.out.below b4);have V4:=hid (VW.out.below b4);have VB4:=hid (VB.out.below b4 VB.out.lt);clear b4 E2 VW VB A2 C2
  go_upto_region 6 with(fail)
  go_cut [19,20] (λs19 s20 wx=>∃ (h1 h2:Nat) (U0:World),s19= .pointer (some ⟨h1,0,none⟩)∧s20= .pointer (some ⟨h2,0,none⟩)∧U0.heap.size≤h1∧U0.heap.size≤h2∧h1≠h2∧Blk wx h1 33 (vv v)∧Blk wx h2 27 (gv x)∧VvW U0 v∧Blk U0 gv1 33 (vv v)∧EC w U0 w.heap.size ga ta x l s ⟨pb,po,none⟩∧Below U0.heap.size U0 wx)
  case first=>
   obtain⟨U,hU⟩:∃ Z,w4.drew=Z:=⟨_,rfl⟩;have bU:Below w4.heap.size w4 U:=by rw[←hU];exact(Below.refl _ _).drew
   have E1:=hid (E4.out.below bU);have V5:=hid (V4.out.below bU);have VB5:=hid (VB4.out.below bU VB4.out.lt);refine wp_region_held (S:=λY=>Y.rangeAt ga 0 (gv x)∧Y.rangeAt gv1 0 (vv v)) (by kernel_rfl) ?_;change wpAnyH _ _ _ _ _ _ _ _ w4.drew;rw[hU];clear hU bU;have RS:=hid (λY (h:EC w Y w.heap.size ga ta x l s ⟨pb,po,none⟩) (h2:Blk Y gv1 33 (vv v))=>show Y.rangeAt ga 0 (gv x)∧Y.rangeAt gv1 0 (vv v) from⟨rows_of_blk h.a,rows_of_blk h2⟩);have r1:=RS.out U E1.out VB5.out;have ul:=E1.out.bel.size;have FO:=gv_one x;refine tkg9 0 (v:= .agg (vv v).toArray) (yieldsIf_load_mid (by kernel_rfl) 33 (.tmp 18) rfl gv1 0 (by go_simp) (vv v) _ (λ_ h=>h.2) Tryz.underlying33 rfl (FV.out)) r1 ?_;refine tkg9 1 (v:= .agg (gv x).toArray) (yieldsIf_load_mid (by kernel_rfl) 27 (.tmp 15) rfl ga 0 (by go_simp) (gv x) _ (λ_ h=>h.1) Tryz.underlying27 rfl (FX_x.out)) r1 ?_;refine wpAnyH_ready (rs:=[2,3]) (by kernel_rfl) (by simp) ?_;refine AllReadyH.cons rfl (λK hK=>?_) (AllReadyH.cons rfl (λK hK=>?_) AllReadyH.nil)
   ·skip
    rw[if_pos (by kernel_rfl)];go_simp;have ba:=(Below.refl U.heap.size U).alloc (Nat.le_refl _) (.cells (vv zVv).toArray 33);have Z1:=Blk.new U 33 (vv zVv);refine hK.out _ _ (RS.out _ (E1.out.below ba) (VB5.out.below ba VB5.out.lt)) (λ_=>?_);clear hK K;change wpAnyH _ _ _ _ _ _ _ _ (U.alloc (.cells (vv zVv).toArray 33));obtain⟨Y1,hY1⟩:∃ Z,U.alloc (.cells (vv zVv).toArray 33)=Z:=⟨_,rfl⟩;rw[hY1] at ba Z1 ⊢;refine rd9 3 λK hK=>?_
    go_simp;have bb:=(Below.refl Y1.heap.size Y1).alloc (Nat.le_refl _) (.cells (gv zGv).toArray 27);have Z2:=Blk.new Y1 27 (gv zGv);have Z1:=Z1.below bb Z1.lt;have bel:=ba.trans (bb.mono ba.size);refine hK.out _ _ (RS.out _ (E1.out.below bel) (VB5.out.below bel VB5.out.lt)) (λ_=>?_);clear hK K;change wpAnyH _ _ _ _ _ _ _ _ (Y1.alloc (.cells (gv zGv).toArray 27));obtain⟨Y2,hY2⟩:∃ Z,Y1.alloc (.cells (gv zGv).toArray 27)=Z:=⟨_,rfl⟩;obtain⟨h1,hh1⟩:∃ Z,U.heap.size=Z:=⟨_,rfl⟩;obtain⟨h2,hh2⟩:∃ Z,Y1.heap.size=Z:=⟨_,rfl⟩;have u1:U.heap.size≤h1:=Nat.le_of_eq hh1;have u2:U.heap.size≤h2:=by rw[←hh2];exact ba.size
    have gvl:=VB5.out.lt;rw[hY2] at Z1 Z2 bel ⊢;rw[hh1] at Z1 ⊢;rw[hh2] at Z2 ⊢;clear hY1 hY2 hh1 hh2 ba bb;have hne:h1≠h2:=Z1.apart Z2 (by decide);refine rdw9 4 λK hK=>?_
    refine wstore_part 33 (.tmp 19) (.tmp 46) h1 0 33 [] (vv zVv) [] (vv v) rfl (by rw[List.nil_append,List.append_nil];exact Z1) rfl (by rw[vv_len V5.out.ll,vv_len (x:=zVv) (by rfl)]) FV.out (vv_one v) rfl rfl ?_;intro Y3 a1 a2 a3;have Z1:Blk Y3 h1 33 (vv v):=by have:=a1.out;rwa [List.nil_append,List.append_nil] at this
    have Z2:=Z2.but a2.out Z2.lt (λe=>hne e.symm);have bel3:Below U.heap.size U Y3:=bel.trans (a2.out.below u1 bel.size);refine hK.out _ _ (RS.out _ (E1.out.below bel3) (VB5.out.below bel3 VB5.out.lt)) (λ_=>?_);clear hK K a1 a2 a3;refine rdw9 5 λK hK=>?_
    refine wstore_part 27 (.tmp 20) (.tmp 47) h2 0 27 [] (gv zGv) [] (gv x) rfl (by rw[List.nil_append,List.append_nil];exact Z2) rfl (by rfl) FX_x.out FO rfl rfl ?_;intro Y4 a1 a2 a3;have Z2:Blk Y4 h2 27 (gv x):=by have:=a1.out;rwa [List.nil_append,List.append_nil] at this
    have Z1:=Z1.but a2.out Z1.lt hne;have bel4:Below U.heap.size U Y4:=bel3.trans (a2.out.below u2 bel3.size);refine hK.out _ _ (RS.out _ (E1.out.below bel4) (VB5.out.below bel4 VB5.out.lt)) (λ_=>?_);clear hK K a1 a2 a3;refine wpAnyH_done (by kernel_rfl) ?_ _;go_simp;go_wp2_with fail
    go_meet
    exact⟨h1,h2,U,rfl,rfl,u1,u2,hne,Z1,Z2,V5.out,VB5.out,E1.out,bel4⟩
   ·skip
    rw[if_pos (by kernel_rfl)];go_simp;have ba:=(Below.refl U.heap.size U).alloc (Nat.le_refl _) (.cells (gv zGv).toArray 27);have Z2:=Blk.new U 27 (gv zGv);refine hK.out _ _ (RS.out _ (E1.out.below ba) (VB5.out.below ba VB5.out.lt)) (λ_=>?_);clear hK K;change wpAnyH _ _ _ _ _ _ _ _ (U.alloc (.cells (gv zGv).toArray 27));obtain⟨Y1,hY1⟩:∃ Z,U.alloc (.cells (gv zGv).toArray 27)=Z:=⟨_,rfl⟩;rw[hY1] at ba Z2 ⊢;refine rd9 2 λK hK=>?_
    go_simp;have bb:=(Below.refl Y1.heap.size Y1).alloc (Nat.le_refl _) (.cells (vv zVv).toArray 33);have Z1:=Blk.new Y1 33 (vv zVv);have Z2:=Z2.below bb Z2.lt;have bel:=ba.trans (bb.mono ba.size);refine hK.out _ _ (RS.out _ (E1.out.below bel) (VB5.out.below bel VB5.out.lt)) (λ_=>?_);clear hK K;change wpAnyH _ _ _ _ _ _ _ _ (Y1.alloc (.cells (vv zVv).toArray 33));obtain⟨Y2,hY2⟩:∃ Z,Y1.alloc (.cells (vv zVv).toArray 33)=Z:=⟨_,rfl⟩;obtain⟨h2,hh2⟩:∃ Z,U.heap.size=Z:=⟨_,rfl⟩;obtain⟨h1,hh1⟩:∃ Z,Y1.heap.size=Z:=⟨_,rfl⟩;have u2:U.heap.size≤h2:=Nat.le_of_eq hh2;have u1:U.heap.size≤h1:=by rw[←hh1];exact ba.size
    have gvl:=VB5.out.lt;rw[hY2] at Z1 Z2 bel ⊢;rw[hh1] at Z1 ⊢;rw[hh2] at Z2 ⊢;clear hY1 hY2 hh1 hh2 ba bb;have hne:h1≠h2:=Z1.apart Z2 (by decide);refine rdw9 4 λK hK=>?_
    refine wstore_part 33 (.tmp 19) (.tmp 46) h1 0 33 [] (vv zVv) [] (vv v) rfl (by rw[List.nil_append,List.append_nil];exact Z1) rfl (by rw[vv_len V5.out.ll,vv_len (x:=zVv) (by rfl)]) FV.out (vv_one v) rfl rfl ?_;intro Y3 a1 a2 a3;have Z1:Blk Y3 h1 33 (vv v):=by have:=a1.out;rwa [List.nil_append,List.append_nil] at this
    have Z2:=Z2.but a2.out Z2.lt (λe=>hne e.symm);have bel3:Below U.heap.size U Y3:=bel.trans (a2.out.below u1 bel.size);refine hK.out _ _ (RS.out _ (E1.out.below bel3) (VB5.out.below bel3 VB5.out.lt)) (λ_=>?_);clear hK K a1 a2 a3;refine rdw9 5 λK hK=>?_
    refine wstore_part 27 (.tmp 20) (.tmp 47) h2 0 27 [] (gv zGv) [] (gv x) rfl (by rw[List.nil_append,List.append_nil];exact Z2) rfl (by rfl) FX_x.out FO rfl rfl ?_;intro Y4 a1 a2 a3;have Z2:Blk Y4 h2 27 (gv x):=by have:=a1.out;rwa [List.nil_append,List.append_nil] at this
    have Z1:=Z1.but a2.out Z1.lt hne;have bel4:Below U.heap.size U Y4:=bel3.trans (a2.out.below u2 bel3.size);refine hK.out _ _ (RS.out _ (E1.out.below bel4) (VB5.out.below bel4 VB5.out.lt)) (λ_=>?_);clear hK K a1 a2 a3;refine wpAnyH_done (by kernel_rfl) ?_ _;go_simp;go_wp2_with fail
    go_meet
    exact⟨h1,h2,U,rfl,rfl,u1,u2,hne,Z1,Z2,V5.out,VB5.out,E1.out,bel4⟩
  case rest=>
   obtain⟨h1,h2,U0,rfl,rfl,hb1,hb2,hne,hv1,hv2,hvw,hvb,he,hbu⟩:=hcut;have W1:=hid hv1;have G2:=hid hv2;have V6:=hid hvw;have VB6:=hid hvb;have E6:=hid he;have BU:=hid hbu;have HU1:=hid hb1;have HU2:=hid hb2;have HNE:=hid hne;clear hv1 hv2 hvw hvb he hbu hb1 hb2 hne E4 V4 VB4
   go_upto_region 9 with(fail)
   rw[HKE.out];have hkc:kk=0∨kk=1∨kk=2∨kk=3∨kk=4∨kk=5∨kk=6:=by omega
   rcases hkc with rfl |rfl |rfl |rfl |rfl |rfl |rfl
   ·have pp:(p:Int)≤1000:=by omega
    have pq:(0:Int)≤(p:Int):=by omega
    have c0:wc.cell? ⟨h1,0,none⟩=some (.int .i64 v.p):=(vv_cells W1.out (V6.out.below BU.out).ll).1;have z0:=W1.out.frozen 0;have FN:=hid (show FS w (wc.setCell ⟨h1,0,none⟩ (.int .i64 ((p:Int)+1))) h1 h2 x { v with p:=((p:Int)+1) } from by
     have hk:Kept (λk=>k=h1) wc (wc.setCell ⟨h1,0,none⟩ (.int .i64 ((p:Int)+1))):=Kept.setCell (F:=λk=>k=h1) (Kept.refl _ _) (p:=⟨h1,0,none⟩) (.inl rfl) _;have bu:=BU.out.setCell (p:=⟨h1,0,none⟩) HU1.out (.int .i64 ((p:Int)+1));have vw:=V6.out.below bu;exact⟨W1.out.store 0 _,G2.out.kept hk (λe=>HNE.out e.symm),E6.out.gx.below bu,GCX.out,by rw[HST.out];decide,⟨vw.ll,vw.lb,vw.s,vw.sb,vw.sn⟩,by show v.s.length≤100000;rw[SLV.out];decide,HVC.out,E6.out.bel.trans (bu.mono E6.out.bel.size)⟩)
    go_upto_region 22 with(fail)
    obtain⟨wn,hwn⟩:∃ Z,wc.setCell ⟨h1,0,none⟩ (.int .i64 ((p:Int)+1))=Z:=⟨_,rfl⟩;rw[hwn] at FN ⊢;obtain⟨vn,hvn⟩:∃ z:Vv, { v with p:=((p:Int)+1) } =z:=⟨_,rfl⟩;rw[hvn] at FN;clear hwn hvn c0 z0
    go_upto_region 22 with(fail)
    obtain⟨U,hU⟩:∃ Z,wn.drew=Z:=⟨_,rfl⟩;have F1:=hid (FN.out.below (show Below wn.heap.size wn U from by rw[←hU];exact(Below.refl _ _).drew));have FXX:=hid (gv_size x);have FVV:=hid (vv_size FN.out.vw.ll);refine wp_region_held (S:=λY=>Y.rangeAt h2 0 (gv x)∧Y.rangeAt h1 0 (vv vn)) (by kernel_rfl) ?_;change wpAnyH _ _ _ _ _ _ _ _ wn.drew;rw[hU];clear hU;have RS:=hid (λY (h:FS w Y h1 h2 x vn)=>show Y.rangeAt h2 0 (gv x)∧Y.rangeAt h1 0 (vv vn) from⟨rows_of_blk h.bg,rows_of_blk h.bv⟩);have C1:=hid (λY (h:FS w Y h1 h2 x vn)=>vCheck_any x vn Y h.gx h.vw (HKI.out Y h.bel) (HK.out Y h.bel) h.sl);have C2:=hid (λY (h:FS w Y h1 h2 x vn)=>refChk_any x vn Y h.gx h.gc h.st h.vw h.sl h.sc);obtain⟨R,hR⟩:∃ z,chkV x vn=z:=⟨_,rfl⟩;rw[hR] at C1 C2;clear hR;have r1:=RS.out U F1.out;refine rd9 0 λK hK=>?_
    go_simp;refine(TO.out U F1.out.bel).mono ?_
    rintro e wa ⟨rfl,ba⟩
    have Fa:=hid (F1.out.below ba);have ra:=RS.out wa Fa.out;refine hK.out _ _ ra (λ_=>?_);clear hK K ba F1 r1;refine tka9 1 ra ?_;refine tkg9 2 (v:= .agg (gv x).toArray) (yieldsIf_load_mid (by kernel_rfl) 27 (.tmp 20) rfl h2 0 (by go_simp) (gv x) _ (λ_ h=>h.1) Tryz.underlying27 rfl (FXX.out)) ra ?_;refine tkg9 3 (v:= .agg (vv vn).toArray) (yieldsIf_load_mid (by kernel_rfl) 33 (.tmp 19) rfl h1 0 (by go_simp) (vv vn) _ (λ_ h=>h.2) Tryz.underlying33 rfl (FVV.out)) ra ?_;refine tkg9 5 (v:= .agg (gv x).toArray) (yieldsIf_load_mid (by kernel_rfl) 27 (.tmp 20) rfl h2 0 (by go_simp) (gv x) _ (λ_ h=>h.1) Tryz.underlying27 rfl (FXX.out)) ra ?_;refine tkg9 6 (v:= .agg (vv vn).toArray) (yieldsIf_load_mid (by kernel_rfl) 33 (.tmp 19) rfl h1 0 (by go_simp) (vv vn) _ (λ_ h=>h.2) Tryz.underlying33 rfl (FVV.out)) ra ?_;refine rd9 4 λK hK=>?_
    go_simp;refine(C1.out wa Fa.out).mono ?_
    rintro e wb ⟨rfl,bb⟩
    have Fb:=hid (Fa.out.below bb);refine hK.out _ _ (RS.out wb Fb.out) (λ_=>?_);clear hK K bb Fa ra;refine rd9 7 λK hK=>?_
    go_simp;refine(C2.out wb Fb.out).mono ?_
    rintro e wd ⟨rfl,bd⟩
    have Fd:=hid (Fb.out.below bd);have rd:=RS.out wd Fd.out;refine hK.out _ _ rd (λ_=>?_);clear hK K bd Fb;refine tka9 8 rd ?_;refine tka9 9 rd ?_;refine tka9 10 rd ?_;refine wpAnyH_done (by kernel_rfl) ?_ _;go_simp;go_wp2_with fail
    go_ret;exact⟨rfl,Fd.out.bel⟩
   ·obtain⟨k,hk,hk1,_⟩:=mod_two 32 (by decide) (by decide) e9;rw[show((32:Nat):Int)=32 from rfl] at hk1;have hkl:k<v.l.length:=by rw[QV.out.2.2.1,HL.out];exact hk
    have ki:(k:Int)<32:=by omega
    have ki0:(0:Int)≤(k:Int):=by omega
    have c0:=vv_atL W1.out k hkl;have z0:=W1.out.frozen (2+k);have hxr:=xor_u8TX (gt v.l k) xx (V6.out.lb k) hx8;have FN:=hid (show FS w (wc.setCell ⟨h1,2+k,none⟩ (.int .u8 ((gt v.l k ^^^ xx:Nat):Int))) h1 h2 x { v with l:=v.l.set k (gt v.l k ^^^ xx) } from by
     have hk:Kept (λk=>k=h1) wc (wc.setCell ⟨h1,2+k,none⟩ (.int .u8 ((gt v.l k ^^^ xx:Nat):Int))):=Kept.setCell (F:=λk=>k=h1) (Kept.refl _ _) (p:=⟨h1,2+k,none⟩) (.inl rfl) _;have bu:=BU.out.setCell (p:=⟨h1,2+k,none⟩) HU1.out (.int .u8 ((gt v.l k ^^^ xx:Nat):Int));have vw:=V6.out.below bu;have st:=W1.out.store (2+k) (.int .u8 ((gt v.l k ^^^ xx:Nat):Int));rw[vv_setL v k _ hkl] at st;exact⟨st,G2.out.kept hk (λe=>HNE.out e.symm),E6.out.gx.below bu,GCX.out,by rw[HST.out];decide,⟨by show(v.l.set k _).length=32;rw[List.length_set];exact vw.ll,set_bytesR vw.lb k xx hx8,vw.s,vw.sb,vw.sn⟩,by show v.s.length≤100000;rw[SLV.out];decide,HVC.out,E6.out.bel.trans (bu.mono E6.out.bel.size)⟩)
    go_upto_region 22 with(fail)
    obtain⟨wn,hwn⟩:∃ Z,wc.setCell ⟨h1,2+k,none⟩ (.int .u8 ((gt v.l k ^^^ xx:Nat):Int))=Z:=⟨_,rfl⟩;rw[hwn] at FN ⊢;obtain⟨vn,hvn⟩:∃ z:Vv, { v with l:=v.l.set k (gt v.l k ^^^ xx) } =z:=⟨_,rfl⟩;rw[hvn] at FN;clear hwn hvn c0 z0 hxr hkl hk1
    go_upto_region 22 with(fail)
    obtain⟨U,hU⟩:∃ Z,wn.drew=Z:=⟨_,rfl⟩;have F1:=hid (FN.out.below (show Below wn.heap.size wn U from by rw[←hU];exact(Below.refl _ _).drew));have FXX:=hid (gv_size x);have FVV:=hid (vv_size FN.out.vw.ll);refine wp_region_held (S:=λY=>Y.rangeAt h2 0 (gv x)∧Y.rangeAt h1 0 (vv vn)) (by kernel_rfl) ?_;change wpAnyH _ _ _ _ _ _ _ _ wn.drew;rw[hU];clear hU;have RS:=hid (λY (h:FS w Y h1 h2 x vn)=>show Y.rangeAt h2 0 (gv x)∧Y.rangeAt h1 0 (vv vn) from⟨rows_of_blk h.bg,rows_of_blk h.bv⟩);have C1:=hid (λY (h:FS w Y h1 h2 x vn)=>vCheck_any x vn Y h.gx h.vw (HKI.out Y h.bel) (HK.out Y h.bel) h.sl);have C2:=hid (λY (h:FS w Y h1 h2 x vn)=>refChk_any x vn Y h.gx h.gc h.st h.vw h.sl h.sc);obtain⟨R,hR⟩:∃ z,chkV x vn=z:=⟨_,rfl⟩;rw[hR] at C1 C2;clear hR;have r1:=RS.out U F1.out;refine rd9 0 λK hK=>?_
    go_simp;refine(TO.out U F1.out.bel).mono ?_
    rintro e wa ⟨rfl,ba⟩
    have Fa:=hid (F1.out.below ba);have ra:=RS.out wa Fa.out;refine hK.out _ _ ra (λ_=>?_);clear hK K ba F1 r1;refine tka9 1 ra ?_;refine tkg9 2 (v:= .agg (gv x).toArray) (yieldsIf_load_mid (by kernel_rfl) 27 (.tmp 20) rfl h2 0 (by go_simp) (gv x) _ (λ_ h=>h.1) Tryz.underlying27 rfl (FXX.out)) ra ?_;refine tkg9 3 (v:= .agg (vv vn).toArray) (yieldsIf_load_mid (by kernel_rfl) 33 (.tmp 19) rfl h1 0 (by go_simp) (vv vn) _ (λ_ h=>h.2) Tryz.underlying33 rfl (FVV.out)) ra ?_;refine tkg9 5 (v:= .agg (gv x).toArray) (yieldsIf_load_mid (by kernel_rfl) 27 (.tmp 20) rfl h2 0 (by go_simp) (gv x) _ (λ_ h=>h.1) Tryz.underlying27 rfl (FXX.out)) ra ?_;refine tkg9 6 (v:= .agg (vv vn).toArray) (yieldsIf_load_mid (by kernel_rfl) 33 (.tmp 19) rfl h1 0 (by go_simp) (vv vn) _ (λ_ h=>h.2) Tryz.underlying33 rfl (FVV.out)) ra ?_;refine rd9 4 λK hK=>?_
    go_simp;refine(C1.out wa Fa.out).mono ?_
    rintro e wb ⟨rfl,bb⟩
    have Fb:=hid (Fa.out.below bb);refine hK.out _ _ (RS.out wb Fb.out) (λ_=>?_);clear hK K bb Fa ra;refine rd9 7 λK hK=>?_
    go_simp;refine(C2.out wb Fb.out).mono ?_
    rintro e wd ⟨rfl,bd⟩
    have Fd:=hid (Fb.out.below bd);have rd:=RS.out wd Fd.out;refine hK.out _ _ rd (λ_=>?_);clear hK K bd Fb;refine tka9 8 rd ?_;refine tka9 9 rd ?_;refine tka9 10 rd ?_;refine wpAnyH_done (by kernel_rfl) ?_ _;go_simp;go_wp2_with fail
    go_ret;exact⟨rfl,Fd.out.bel⟩
   ·obtain⟨k,hk,_,hk1⟩:=mod_two 4460 (by decide) (by decide) e9;rw[show((4460:Nat):Int)=4460 from rfl] at hk1;have hk4:(k:Int)<4460:=by omega
    have hk0:(0:Int)≤(k:Int):=by omega
    have bd0:=(Below.refl wc.heap.size wc).alloc (Nat.le_refl _) (.cells #[] 5);have SA:=hid ((V6.out.below BU.out).s.below bd0);have cv0:(wc.alloc (.cells #[] 5)).cell? ⟨gv1,34,none⟩=some (.slice v.A 4460 v.c):=by
     have h:=(vv_cells (VB6.out.below (BU.out.trans (bd0.mono BU.out.size)) VB6.out.lt) V6.out.ll).2.2
     rwa [SLV.out] at h
    clear bd0
    go_upto_region 15 with((with_reducible refine at_op (.call { callee:= .builtin .append,args:= #[.tmp 80,.tmp 82],argTypes:= #[25,25] }) rfl ?_);go_must (refine append_bytes (.tmp 80) (.tmp 82) 25 rfl rfl 5 Tryz.underlying25 byte_info wc.heap.size (.slice (some ⟨wc.heap.size,0,none⟩) 0 0) 0 [] v.s rfl (own_emptyTX _ _ (Nat.le_refl _)) v.A 4460 v.c rfl SLV.out SA.out (by omega) (by simp) ?_);intro v3 w11 a1 a2 a3;obtain⟨gu,c5,rfl,hc5,B11,O11,c14,z14⟩:=app14 W1.out V6.out.ll a1.out a2.out)
    clear cv0 c14 z14 a1 a2 a3 SA;have W14:Blk (w11.setCell ⟨h1,34,none⟩ (.slice (some ⟨gu,0,none⟩) 4460 c5)) h1 33 (vv { v with A:=some ⟨gu,0,none⟩,c:=c5,s:=v.s.set k (gt v.s k ^^^ xx) }):=by
     have st:=(W1.out.below B11.out W1.out.lt).store 34 (.slice (some ⟨gu,0,none⟩) 4460 c5);rw[vv_set34 v (some ⟨gu,0,none⟩) c5 4460 (v.s.set k (gt v.s k ^^^ xx)) V6.out.ll (by rw[List.length_set];exact SLV.out)] at st;exact st
    have k14:Kept (λk=>k=h1) w11 (w11.setCell ⟨h1,34,none⟩ (.slice (some ⟨gu,0,none⟩) 4460 c5)):=Kept.setCell (F:=λk=>k=h1) (Kept.refl _ _) (p:=⟨h1,34,none⟩) (.inl rfl) _;have c14:(w11.setCell ⟨h1,34,none⟩ (.slice (some ⟨gu,0,none⟩) 4460 c5)).cell? ⟨h1,34,none⟩=some (.slice (some ⟨gu,0,none⟩) 4460 c5):=by
     have h:=(vv_cells W14 V6.out.ll).2.2
     rwa [show({ v with A:=some ⟨gu,0,none⟩,c:=c5,s:=v.s.set k (gt v.s k ^^^ xx) } :Vv).s.length=4460 from(List.length_set ..).trans SLV.out] at h
    have b14:=(BU.out.trans (B11.out.mono BU.out.size)).setCell (p:=⟨h1,34,none⟩) HU1.out (.slice (some ⟨gu,0,none⟩) 4460 c5);refine world_at (λZ=>Blk Z h1 33 (vv { v with A:=some ⟨gu,0,none⟩,c:=c5,s:=v.s.set k (gt v.s k ^^^ xx) })∧Z.cell? ⟨h1,34,none⟩=some (.slice (some ⟨gu,0,none⟩) 4460 c5)∧Z.ownsRow wc.heap.size 5 1 (.slice (some ⟨gu,0,none⟩) 4460 c5) 4460 (u8s v.s)∧Blk Z h2 27 (gv x)∧Below U0.heap.size U0 Z)
     ⟨W14,c14,ownsRow_setCell_below O11.out (a:=⟨h1,34,none⟩) W1.out.lt _,(G2.out.below B11.out G2.out.lt).kept k14 (λe=>HNE.out e.symm),b14⟩ ?_
    rintro Z ⟨z1,z2,z3,z4,z5⟩
    have Z1:=hid z1;have Z2:=hid z2;have Z3:=hid z3;have Z4:=hid z4;have Z5:=hid z5;have GL:=hid (show wc.heap.size≤gu from(z3.lt gu rfl).1);have H1G:=hid (show h1≠gu from λe=>by have h:=W1.out.lt;have h2:=(z3.lt gu rfl).1;omega);have H2G:=hid (show h2≠gu from λe=>by have h:=G2.out.lt;have h2:=(z3.lt gu rfl).1;omega);have UG:=hid (show U0.heap.size≤gu from Nat.le_trans BU.out.size (z3.lt gu rfl).1);clear z1 z2 z3 z4 z5 W14 k14 c14 b14 O11 B11;obtain⟨U,hU⟩:∃ X,Z.drew=X:=⟨_,rfl⟩;have bd:Below Z.heap.size Z U:=by rw[←hU];exact(Below.refl _ _).drew
    have bu0:=Z5.out.trans (bd.mono Z5.out.size);have OU:=own_below Z3.out bd;have rU:U.cell? ⟨gv1,34,none⟩=some (.slice v.A 4460 v.c)∧U.cell? ⟨h1,34,none⟩=some (.slice (some ⟨gu,0,none⟩) 4460 c5)∧U.cell? ⟨gu,k,none⟩=some (.int .u8 ((gt v.s k:Nat):Int)):=by
     refine⟨?_,(bd.cell (p:=⟨h1,34,none⟩) Z1.out.lt).trans Z2.out,?_⟩
     ·have h:=(vv_cells (VB6.out.below bu0 VB6.out.lt) V6.out.ll).2.2
      rwa [SLV.out] at h
     ·rw[OU.cellAt k (by omega),u8s_get _ _ (by rw[SLV.out];exact hk)]
    have z0:=OU.frozenAt k;have hxr:=xor_u8TX (gt v.s k) xx (V6.out.sb k) hx8;have FN:=hid (show FS w (U.setCell ⟨gu,k,none⟩ (.int .u8 ((gt v.s k ^^^ xx:Nat):Int))) h1 h2 x { v with A:=some ⟨gu,0,none⟩,c:=c5,s:=v.s.set k (gt v.s k ^^^ xx) } from by
     have hk3:Kept (λj=>j=gu) U (U.setCell ⟨gu,k,none⟩ (.int .u8 ((gt v.s k ^^^ xx:Nat):Int))):=Kept.setCell (F:=λj=>j=gu) (Kept.refl _ _) (p:=⟨gu,k,none⟩) (.inl rfl) _;have bu:=bu0.setCell (p:=⟨gu,k,none⟩) UG.out (.int .u8 ((gt v.s k ^^^ xx:Nat):Int));have vw:=V6.out.below bu;have oy:=own_turnTX OU k (gt v.s k ^^^ xx);have hln:(v.s.set k (gt v.s k ^^^ xx)).length=4460:=by rw[List.length_set];exact SLV.out
     exact⟨(Z1.out.below bd Z1.out.lt).kept hk3 H1G.out,(Z4.out.below bd Z4.out.lt).kept hk3 H2G.out,E6.out.gx.below bu,GCX.out,by rw[HST.out];decide,⟨vw.ll,vw.lb,Sr.of_own oy,set_bytesR vw.sb k xx hx8,by show(v.s.set k (gt v.s k ^^^ xx)).length≤1000000;rw[hln];omega⟩,by show(v.s.set k (gt v.s k ^^^ xx)).length≤100000;rw[hln];omega,by show(v.s.set k (gt v.s k ^^^ xx)).length≤c5;rw[hln];exact hc5.out,E6.out.bel.trans (bu.mono E6.out.bel.size)⟩)
    have w44:IntKind.u64.wrap 4460=4460:=by decide
    refine wp_region_E (λY=>Y.cell? ⟨gv1,34,none⟩=some (.slice v.A 4460 v.c)∧Y.cell? ⟨h1,34,none⟩=some (.slice (some ⟨gu,0,none⟩) 4460 c5)∧Y.cell? ⟨gu,k,none⟩=some (.int .u8 ((gt v.s k:Nat):Int))) (λi=>i == 15) (by kernel_rfl) ?_;change wpAnyE _ _ _ _ _ _ _ _ _ Z.drew;rw[hU];clear hU bd bu0 OU;refine tkea9 0 rU ?_;refine tke9 1 ?_ ?_ rU ?_;rotate_left 1
    ·(intro w hS;have hs:=hS.2.1;clear hS;go_simp;try (with_reducible rfl))
    refine tkea9 2 rU ?_;refine tkea9 3 rU ?_;refine tkea9 4 rU ?_;refine tke9 5 ?_ ?_ rU ?_;rotate_left 1
    ·(intro w hS;have hs:=hS.1;clear hS;go_simp;try (with_reducible rfl))
    refine tkea9 6 rU ?_;refine tkea9 7 rU ?_;refine tkea9 8 rU ?_;refine tkea9 9 rU ?_;refine tkea9 10 rU ?_;refine tke9 11 ?_ ?_ rU ?_;rotate_left 1
    ·(intro w hS;have hs:=hS.2.2;clear hS;go_simp;try (with_reducible rfl))
    refine tkea9 12 rU ?_;refine tkea9 13 rU ?_;refine tkea9 14 rU ?_;refine wpAnyE_one (i:=15) (by kernel_rfl) rfl (by kernel_rfl) (λK hK=>?_);go_simp;refine hK.out _ _ (.inl rfl) ?_;clear hK K rU z0;obtain⟨wn,hwn⟩:∃ Y,U.setCell ⟨gu,k,none⟩ (.int .u8 ((gt v.s k ^^^ xx:Nat):Int))=Y:=⟨_,rfl⟩;rw[hwn] at FN ⊢;obtain⟨vn,hvn⟩:∃ z:Vv, { v with A:=some ⟨gu,0,none⟩,c:=c5,s:=v.s.set k (gt v.s k ^^^ xx) } =z:=⟨_,rfl⟩;rw[hvn] at FN Z1;clear hwn hvn;refine wpAnyE_done (by kernel_rfl) ?_ _;go_simp
    go_upto_region 22 with(fail)
    obtain⟨U,hU⟩:∃ Z,wn.drew=Z:=⟨_,rfl⟩;have F1:=hid (FN.out.below (show Below wn.heap.size wn U from by rw[←hU];exact(Below.refl _ _).drew));have FXX:=hid (gv_size x);have FVV:=hid (vv_size FN.out.vw.ll);refine wp_region_held (S:=λY=>Y.rangeAt h2 0 (gv x)∧Y.rangeAt h1 0 (vv vn)) (by kernel_rfl) ?_;change wpAnyH _ _ _ _ _ _ _ _ wn.drew;rw[hU];clear hU;have RS:=hid (λY (h:FS w Y h1 h2 x vn)=>show Y.rangeAt h2 0 (gv x)∧Y.rangeAt h1 0 (vv vn) from⟨rows_of_blk h.bg,rows_of_blk h.bv⟩);have C1:=hid (λY (h:FS w Y h1 h2 x vn)=>vCheck_any x vn Y h.gx h.vw (HKI.out Y h.bel) (HK.out Y h.bel) h.sl);have C2:=hid (λY (h:FS w Y h1 h2 x vn)=>refChk_any x vn Y h.gx h.gc h.st h.vw h.sl h.sc);obtain⟨R,hR⟩:∃ z,chkV x vn=z:=⟨_,rfl⟩;rw[hR] at C1 C2;clear hR;have r1:=RS.out U F1.out;refine rd9 0 λK hK=>?_
    go_simp;refine(TO.out U F1.out.bel).mono ?_
    rintro e wa ⟨rfl,ba⟩
    have Fa:=hid (F1.out.below ba);have ra:=RS.out wa Fa.out;refine hK.out _ _ ra (λ_=>?_);clear hK K ba F1 r1;refine tka9 1 ra ?_;refine tkg9 2 (v:= .agg (gv x).toArray) (yieldsIf_load_mid (by kernel_rfl) 27 (.tmp 20) rfl h2 0 (by go_simp) (gv x) _ (λ_ h=>h.1) Tryz.underlying27 rfl (FXX.out)) ra ?_;refine tkg9 3 (v:= .agg (vv vn).toArray) (yieldsIf_load_mid (by kernel_rfl) 33 (.tmp 19) rfl h1 0 (by go_simp) (vv vn) _ (λ_ h=>h.2) Tryz.underlying33 rfl (FVV.out)) ra ?_;refine tkg9 5 (v:= .agg (gv x).toArray) (yieldsIf_load_mid (by kernel_rfl) 27 (.tmp 20) rfl h2 0 (by go_simp) (gv x) _ (λ_ h=>h.1) Tryz.underlying27 rfl (FXX.out)) ra ?_;refine tkg9 6 (v:= .agg (vv vn).toArray) (yieldsIf_load_mid (by kernel_rfl) 33 (.tmp 19) rfl h1 0 (by go_simp) (vv vn) _ (λ_ h=>h.2) Tryz.underlying33 rfl (FVV.out)) ra ?_;refine rd9 4 λK hK=>?_
    go_simp;refine(C1.out wa Fa.out).mono ?_
    rintro e wb ⟨rfl,bb⟩
    have Fb:=hid (Fa.out.below bb);refine hK.out _ _ (RS.out wb Fb.out) (λ_=>?_);clear hK K bb Fa ra;refine rd9 7 λK hK=>?_
    go_simp;refine(C2.out wb Fb.out).mono ?_
    rintro e wd ⟨rfl,bd⟩
    have Fd:=hid (Fb.out.below bd);have rd:=RS.out wd Fd.out;refine hK.out _ _ rd (λ_=>?_);clear hK K bd Fb;refine tka9 8 rd ?_;refine tka9 9 rd ?_;refine tka9 10 rd ?_;refine wpAnyH_done (by kernel_rfl) ?_ _;go_simp;go_wp2_with fail
    go_ret;exact⟨rfl,Fd.out.bel⟩
   ·obtain⟨k9,hk9,hk9e,_⟩:=mod_two 9 (by decide) (by decide) e9;rw[show((9:Nat):Int)=9 from rfl] at hk9e;have k91:(k9:Int)<9:=by omega
    have k90:(0:Int)≤(k9:Int):=by omega
    have c0:wc.cell? ⟨h1,1,none⟩=some (.int .i64 v.f):=(vv_cells W1.out (V6.out.below BU.out).ll).2.1;have z0:=W1.out.frozen 1;have FN:=hid (show FS w (wc.setCell ⟨h1,1,none⟩ (.int .i64 ((k9:Int) -1))) h1 h2 x { v with f:=((k9:Int) -1) } from by
     have hk:Kept (λk=>k=h1) wc (wc.setCell ⟨h1,1,none⟩ (.int .i64 ((k9:Int) -1))):=Kept.setCell (F:=λk=>k=h1) (Kept.refl _ _) (p:=⟨h1,1,none⟩) (.inl rfl) _;have bu:=BU.out.setCell (p:=⟨h1,1,none⟩) HU1.out (.int .i64 ((k9:Int) -1));have vw:=V6.out.below bu;exact⟨W1.out.store 1 _,G2.out.kept hk (λe=>HNE.out e.symm),E6.out.gx.below bu,GCX.out,by rw[HST.out];decide,⟨vw.ll,vw.lb,vw.s,vw.sb,vw.sn⟩,by show v.s.length≤100000;rw[SLV.out];decide,HVC.out,E6.out.bel.trans (bu.mono E6.out.bel.size)⟩)
    go_upto_region 22 with(fail)
    obtain⟨wn,hwn⟩:∃ Z,wc.setCell ⟨h1,1,none⟩ (.int .i64 ((k9:Int) -1))=Z:=⟨_,rfl⟩;rw[hwn] at FN ⊢;obtain⟨vn,hvn⟩:∃ z:Vv, { v with f:=((k9:Int) -1) } =z:=⟨_,rfl⟩;rw[hvn] at FN;clear hwn hvn c0 z0
    go_upto_region 22 with(fail)
    obtain⟨U,hU⟩:∃ Z,wn.drew=Z:=⟨_,rfl⟩;have F1:=hid (FN.out.below (show Below wn.heap.size wn U from by rw[←hU];exact(Below.refl _ _).drew));have FXX:=hid (gv_size x);have FVV:=hid (vv_size FN.out.vw.ll);refine wp_region_held (S:=λY=>Y.rangeAt h2 0 (gv x)∧Y.rangeAt h1 0 (vv vn)) (by kernel_rfl) ?_;change wpAnyH _ _ _ _ _ _ _ _ wn.drew;rw[hU];clear hU;have RS:=hid (λY (h:FS w Y h1 h2 x vn)=>show Y.rangeAt h2 0 (gv x)∧Y.rangeAt h1 0 (vv vn) from⟨rows_of_blk h.bg,rows_of_blk h.bv⟩);have C1:=hid (λY (h:FS w Y h1 h2 x vn)=>vCheck_any x vn Y h.gx h.vw (HKI.out Y h.bel) (HK.out Y h.bel) h.sl);have C2:=hid (λY (h:FS w Y h1 h2 x vn)=>refChk_any x vn Y h.gx h.gc h.st h.vw h.sl h.sc);obtain⟨R,hR⟩:∃ z,chkV x vn=z:=⟨_,rfl⟩;rw[hR] at C1 C2;clear hR;have r1:=RS.out U F1.out;refine rd9 0 λK hK=>?_
    go_simp;refine(TO.out U F1.out.bel).mono ?_
    rintro e wa ⟨rfl,ba⟩
    have Fa:=hid (F1.out.below ba);have ra:=RS.out wa Fa.out;refine hK.out _ _ ra (λ_=>?_);clear hK K ba F1 r1;refine tka9 1 ra ?_;refine tkg9 2 (v:= .agg (gv x).toArray) (yieldsIf_load_mid (by kernel_rfl) 27 (.tmp 20) rfl h2 0 (by go_simp) (gv x) _ (λ_ h=>h.1) Tryz.underlying27 rfl (FXX.out)) ra ?_;refine tkg9 3 (v:= .agg (vv vn).toArray) (yieldsIf_load_mid (by kernel_rfl) 33 (.tmp 19) rfl h1 0 (by go_simp) (vv vn) _ (λ_ h=>h.2) Tryz.underlying33 rfl (FVV.out)) ra ?_;refine tkg9 5 (v:= .agg (gv x).toArray) (yieldsIf_load_mid (by kernel_rfl) 27 (.tmp 20) rfl h2 0 (by go_simp) (gv x) _ (λ_ h=>h.1) Tryz.underlying27 rfl (FXX.out)) ra ?_;refine tkg9 6 (v:= .agg (vv vn).toArray) (yieldsIf_load_mid (by kernel_rfl) 33 (.tmp 19) rfl h1 0 (by go_simp) (vv vn) _ (λ_ h=>h.2) Tryz.underlying33 rfl (FVV.out)) ra ?_;refine rd9 4 λK hK=>?_
    go_simp;refine(C1.out wa Fa.out).mono ?_
    rintro e wb ⟨rfl,bb⟩
    have Fb:=hid (Fa.out.below bb);refine hK.out _ _ (RS.out wb Fb.out) (λ_=>?_);clear hK K bb Fa ra;refine rd9 7 λK hK=>?_
    go_simp;refine(C2.out wb Fb.out).mono ?_
    rintro e wd ⟨rfl,bd⟩
    have Fd:=hid (Fb.out.below bd);have rd:=RS.out wd Fd.out;refine hK.out _ _ rd (λ_=>?_);clear hK K bd Fb;refine tka9 8 rd ?_;refine tka9 9 rd ?_;refine tka9 10 rd ?_;refine wpAnyH_done (by kernel_rfl) ?_ _;go_simp;go_wp2_with fail
    go_ret;exact⟨rfl,Fd.out.bel⟩
   ·have c0:wc.cell? ⟨h2,1,none⟩=some (.int .i64 x.rd):=(gv_cells G2.out).2.1;have z0:=G2.out.frozen 1;have FN:=hid (show FS w (wc.setCell ⟨h2,1,none⟩ (.int .i64 3)) h1 h2 { x with rd:=3 } v from by
     have hk:Kept (λk=>k=h2) wc (wc.setCell ⟨h2,1,none⟩ (.int .i64 3)):=Kept.setCell (F:=λk=>k=h2) (Kept.refl _ _) (p:=⟨h2,1,none⟩) (.inl rfl) _;have bu:=BU.out.setCell (p:=⟨h2,1,none⟩) HU2.out (.int .i64 3);have gx:=E6.out.gx.below bu;exact⟨W1.out.kept hk HNE.out,G2.out.store 1 _,⟨gx.ks,gx.k,gx.kb,gx.kn,gx.kl,gx.st,gx.sb,gx.sl,gx.sc⟩,GCX.out,by show x.st.length≤900000;rw[HST.out];decide,V6.out.below bu,by rw[SLV.out];decide,HVC.out,E6.out.bel.trans (bu.mono E6.out.bel.size)⟩)
    go_upto_region 22 with(fail)
    obtain⟨wn,hwn⟩:∃ Z,wc.setCell ⟨h2,1,none⟩ (.int .i64 3)=Z:=⟨_,rfl⟩;rw[hwn] at FN ⊢;obtain⟨xn,hxn⟩:∃ z:Gv, { x with rd:=3 } =z:=⟨_,rfl⟩;rw[hxn] at FN;clear hwn hxn c0 z0
    go_upto_region 22 with(fail)
    obtain⟨U,hU⟩:∃ Z,wn.drew=Z:=⟨_,rfl⟩;have F1:=hid (FN.out.below (show Below wn.heap.size wn U from by rw[←hU];exact(Below.refl _ _).drew));have FXX:=hid (gv_size xn);have FVV:=hid (vv_size FN.out.vw.ll);refine wp_region_held (S:=λY=>Y.rangeAt h2 0 (gv xn)∧Y.rangeAt h1 0 (vv v)) (by kernel_rfl) ?_;change wpAnyH _ _ _ _ _ _ _ _ wn.drew;rw[hU];clear hU;have RS:=hid (λY (h:FS w Y h1 h2 xn v)=>show Y.rangeAt h2 0 (gv xn)∧Y.rangeAt h1 0 (vv v) from⟨rows_of_blk h.bg,rows_of_blk h.bv⟩);have C1:=hid (λY (h:FS w Y h1 h2 xn v)=>vCheck_any xn v Y h.gx h.vw (HKI.out Y h.bel) (HK.out Y h.bel) h.sl);have C2:=hid (λY (h:FS w Y h1 h2 xn v)=>refChk_any xn v Y h.gx h.gc h.st h.vw h.sl h.sc);obtain⟨R,hR⟩:∃ z,chkV xn v=z:=⟨_,rfl⟩;rw[hR] at C1 C2;clear hR;have r1:=RS.out U F1.out;refine rd9 0 λK hK=>?_
    go_simp;refine(TO.out U F1.out.bel).mono ?_
    rintro e wa ⟨rfl,ba⟩
    have Fa:=hid (F1.out.below ba);have ra:=RS.out wa Fa.out;refine hK.out _ _ ra (λ_=>?_);clear hK K ba F1 r1;refine tka9 1 ra ?_;refine tkg9 2 (v:= .agg (gv xn).toArray) (yieldsIf_load_mid (by kernel_rfl) 27 (.tmp 20) rfl h2 0 (by go_simp) (gv xn) _ (λ_ h=>h.1) Tryz.underlying27 rfl (FXX.out)) ra ?_;refine tkg9 3 (v:= .agg (vv v).toArray) (yieldsIf_load_mid (by kernel_rfl) 33 (.tmp 19) rfl h1 0 (by go_simp) (vv v) _ (λ_ h=>h.2) Tryz.underlying33 rfl (FVV.out)) ra ?_;refine tkg9 5 (v:= .agg (gv xn).toArray) (yieldsIf_load_mid (by kernel_rfl) 27 (.tmp 20) rfl h2 0 (by go_simp) (gv xn) _ (λ_ h=>h.1) Tryz.underlying27 rfl (FXX.out)) ra ?_;refine tkg9 6 (v:= .agg (vv v).toArray) (yieldsIf_load_mid (by kernel_rfl) 33 (.tmp 19) rfl h1 0 (by go_simp) (vv v) _ (λ_ h=>h.2) Tryz.underlying33 rfl (FVV.out)) ra ?_;refine rd9 4 λK hK=>?_
    go_simp;refine(C1.out wa Fa.out).mono ?_
    rintro e wb ⟨rfl,bb⟩
    have Fb:=hid (Fa.out.below bb);refine hK.out _ _ (RS.out wb Fb.out) (λ_=>?_);clear hK K bb Fa ra;refine rd9 7 λK hK=>?_
    go_simp;refine(C2.out wb Fb.out).mono ?_
    rintro e wd ⟨rfl,bd⟩
    have Fd:=hid (Fb.out.below bd);have rd:=RS.out wd Fd.out;refine hK.out _ _ rd (λ_=>?_);clear hK K bd Fb;refine tka9 8 rd ?_;refine tka9 9 rd ?_;refine tka9 10 rd ?_;refine wpAnyH_done (by kernel_rfl) ?_ _;go_simp;go_wp2_with fail
    go_ret;exact⟨rfl,Fd.out.bel⟩
   ·obtain⟨k,hk,_,hk1⟩:=mod_two 4460 (by decide) (by decide) e9;rw[show((4460:Nat):Int)=4460 from rfl] at hk1;have hkc:(k:Int)≤(v.c:Int):=by have:=HVC.out;rw[SLV.out] at this;omega
    have hk4:(k:Int)<4460:=by omega
    have hk0:(0:Int)≤(k:Int):=by omega
    go_upto_region 21 with(fail)
    obtain⟨U,hU⟩:∃ Z,wc.drew=Z:=⟨_,rfl⟩;have bd:Below wc.heap.size wc U:=by rw[←hU];exact(Below.refl _ _).drew
    have bu0:=BU.out.trans (bd.mono BU.out.size);have W2:=W1.out.below bd W1.out.lt;have G3:=G2.out.below bd G2.out.lt;have cv:U.cell? ⟨gv1,34,none⟩=some (.slice v.A 4460 v.c):=by
     have h:=(vv_cells (VB6.out.below bu0 VB6.out.lt) V6.out.ll).2.2
     rwa [SLV.out] at h
    have c0:U.cell? ⟨h1,34,none⟩=some (.slice v.A v.s.length v.c):=(vv_cells W2 V6.out.ll).2.2;have z0:=W2.frozen 34;have FN:=hid (show FS w (U.setCell ⟨h1,34,none⟩ (.slice v.A k v.c)) h1 h2 x { v with A:=v.A,c:=v.c,s:=v.s.take k } from by
     have hk3:Kept (λk=>k=h1) U (U.setCell ⟨h1,34,none⟩ (.slice v.A k v.c)):=Kept.setCell (F:=λk=>k=h1) (Kept.refl _ _) (p:=⟨h1,34,none⟩) (.inl rfl) _;have bu:=bu0.setCell (p:=⟨h1,34,none⟩) HU1.out (.slice v.A k v.c);have vw:=V6.out.below bu;have hln:(v.s.take k).length=k:=by rw[List.length_take,SLV.out];omega
     have st:=W2.store 34 (.slice v.A k v.c);rw[vv_set34 v v.A v.c k (v.s.take k) V6.out.ll hln] at st;exact⟨st,G3.kept hk3 (λe=>HNE.out e.symm),E6.out.gx.below bu,GCX.out,by rw[HST.out];decide,⟨vw.ll,vw.lb,vw.s.take k,bytes_take vw.sb k,by show(v.s.take k).length≤1000000;rw[hln];omega⟩,by show(v.s.take k).length≤100000;rw[hln];omega,by show(v.s.take k).length≤v.c;rw[hln];omega,E6.out.bel.trans (bu.mono E6.out.bel.size)⟩)
    refine wp_region_E (λY=>Y.cell? ⟨gv1,34,none⟩=some (.slice v.A 4460 v.c)) (λi=>i == 12) (by kernel_rfl) ?_;change wpAnyE _ _ _ _ _ _ _ _ _ wc.drew;rw[hU];clear hU bd bu0 W2 G3;refine tkea9 0 cv ?_;refine tke9 1 ?_ ?_ cv ?_;rotate_left 1
    ·(intro w hS;have hs:=hS;clear hS;go_simp;try (with_reducible rfl))
    refine tkea9 2 cv ?_;refine tkea9 3 cv ?_;refine tkea9 4 cv ?_;refine tke9 5 ?_ ?_ cv ?_;rotate_left 1
    ·(intro w hS;have hs:=hS;clear hS;go_simp;try (with_reducible rfl))
    have w44:IntKind.u64.wrap 4460=4460:=by decide
    refine tkea9 6 cv ?_;refine tkea9 7 cv ?_;refine tkea9 8 cv ?_;refine tkea9 9 cv ?_;refine tkea9 10 cv ?_;refine tkea9 11 cv ?_;refine wpAnyE_one (i:=12) (by kernel_rfl) rfl (by kernel_rfl) (λK hK=>?_);go_simp;refine hK.out _ _ (.inl rfl) ?_;clear hK K cv c0 z0;obtain⟨wn,hwn⟩:∃ Z,U.setCell ⟨h1,34,none⟩ (.slice v.A k v.c)=Z:=⟨_,rfl⟩;rw[hwn] at FN ⊢;obtain⟨vn,hvn⟩:∃ z:Vv, { v with A:=v.A,c:=v.c,s:=v.s.take k } =z:=⟨_,rfl⟩;rw[hvn] at FN;clear hwn hvn;refine wpAnyE_done (by kernel_rfl) ?_ _;go_simp
    go_upto_region 22 with(fail)
    obtain⟨U,hU⟩:∃ Z,wn.drew=Z:=⟨_,rfl⟩;have F1:=hid (FN.out.below (show Below wn.heap.size wn U from by rw[←hU];exact(Below.refl _ _).drew));have FXX:=hid (gv_size x);have FVV:=hid (vv_size FN.out.vw.ll);refine wp_region_held (S:=λY=>Y.rangeAt h2 0 (gv x)∧Y.rangeAt h1 0 (vv vn)) (by kernel_rfl) ?_;change wpAnyH _ _ _ _ _ _ _ _ wn.drew;rw[hU];clear hU;have RS:=hid (λY (h:FS w Y h1 h2 x vn)=>show Y.rangeAt h2 0 (gv x)∧Y.rangeAt h1 0 (vv vn) from⟨rows_of_blk h.bg,rows_of_blk h.bv⟩);have C1:=hid (λY (h:FS w Y h1 h2 x vn)=>vCheck_any x vn Y h.gx h.vw (HKI.out Y h.bel) (HK.out Y h.bel) h.sl);have C2:=hid (λY (h:FS w Y h1 h2 x vn)=>refChk_any x vn Y h.gx h.gc h.st h.vw h.sl h.sc);obtain⟨R,hR⟩:∃ z,chkV x vn=z:=⟨_,rfl⟩;rw[hR] at C1 C2;clear hR;have r1:=RS.out U F1.out;refine rd9 0 λK hK=>?_
    go_simp;refine(TO.out U F1.out.bel).mono ?_
    rintro e wa ⟨rfl,ba⟩
    have Fa:=hid (F1.out.below ba);have ra:=RS.out wa Fa.out;refine hK.out _ _ ra (λ_=>?_);clear hK K ba F1 r1;refine tka9 1 ra ?_;refine tkg9 2 (v:= .agg (gv x).toArray) (yieldsIf_load_mid (by kernel_rfl) 27 (.tmp 20) rfl h2 0 (by go_simp) (gv x) _ (λ_ h=>h.1) Tryz.underlying27 rfl (FXX.out)) ra ?_;refine tkg9 3 (v:= .agg (vv vn).toArray) (yieldsIf_load_mid (by kernel_rfl) 33 (.tmp 19) rfl h1 0 (by go_simp) (vv vn) _ (λ_ h=>h.2) Tryz.underlying33 rfl (FVV.out)) ra ?_;refine tkg9 5 (v:= .agg (gv x).toArray) (yieldsIf_load_mid (by kernel_rfl) 27 (.tmp 20) rfl h2 0 (by go_simp) (gv x) _ (λ_ h=>h.1) Tryz.underlying27 rfl (FXX.out)) ra ?_;refine tkg9 6 (v:= .agg (vv vn).toArray) (yieldsIf_load_mid (by kernel_rfl) 33 (.tmp 19) rfl h1 0 (by go_simp) (vv vn) _ (λ_ h=>h.2) Tryz.underlying33 rfl (FVV.out)) ra ?_;refine rd9 4 λK hK=>?_
    go_simp;refine(C1.out wa Fa.out).mono ?_
    rintro e wb ⟨rfl,bb⟩
    have Fb:=hid (Fa.out.below bb);refine hK.out _ _ (RS.out wb Fb.out) (λ_=>?_);clear hK K bb Fa ra;refine rd9 7 λK hK=>?_
    go_simp;refine(C2.out wb Fb.out).mono ?_
    rintro e wd ⟨rfl,bd⟩
    have Fd:=hid (Fb.out.below bd);have rd:=RS.out wd Fd.out;refine hK.out _ _ rd (λ_=>?_);clear hK K bd Fb;refine tka9 8 rd ?_;refine tka9 9 rd ?_;refine tka9 10 rd ?_;refine wpAnyH_done (by kernel_rfl) ?_ _;go_simp;go_wp2_with fail
    go_ret;exact⟨rfl,Fd.out.bel⟩
   ·obtain⟨k,hk,_,hk1⟩:=mod_two 4 (by decide) (by decide) e9;rw[show((4:Nat):Int)=4 from rfl] at hk1;have hk4:(k:Int)<4:=by omega
    have hk0:(0:Int)≤(k:Int):=by omega
    obtain⟨pl,hpl⟩:∃ z:Int,([0, -1,1048576,1048577]:List Int).getD k 0=z:=⟨_,rfl⟩;have bd:Below wc.heap.size wc (wc.alloc (.cells #[.int .i64 0,.int .i64 (-1),.int .i64 1048576,.int .i64 1048577] 3)):=(Below.refl wc.heap.size wc).alloc (Nat.le_refl _) (.cells #[.int .i64 0,.int .i64 (-1),.int .i64 1048576,.int .i64 1048577] 3);have cT:(wc.alloc (.cells #[.int .i64 0,.int .i64 (-1),.int .i64 1048576,.int .i64 1048577] 3)).cell? ⟨wc.heap.size,k,none⟩=some (.int .i64 pl):=by
     have h:(wc.alloc (.cells #[.int .i64 0,.int .i64 (-1),.int .i64 1048576,.int .i64 1048577] 3)).cell? ⟨wc.heap.size,k,none⟩=_:=(Blk.new wc 3 [.int .i64 0,.int .i64 (-1),.int .i64 1048576,.int .i64 1048577]).cell k;rw[h,←hpl];have hk5:k=0∨k=1∨k=2∨k=3:=by omega
     rcases hk5 with rfl |rfl |rfl |rfl<;>rfl
    have W2:=W1.out.below bd W1.out.lt;have G3:=G2.out.below bd G2.out.lt;have c0:(wc.alloc (.cells #[.int .i64 0,.int .i64 (-1),.int .i64 1048576,.int .i64 1048577] 3)).cell? ⟨h1,0,none⟩=some (.int .i64 v.p):=(vv_cells W2 V6.out.ll).1;have z0:=W2.frozen 0;have FN:=hid (show FS w ((wc.alloc (.cells #[.int .i64 0,.int .i64 (-1),.int .i64 1048576,.int .i64 1048577] 3)).setCell ⟨h1,0,none⟩ (.int .i64 pl)) h1 h2 x { v with p:=pl } from by
     have hk3:Kept (λk=>k=h1) (wc.alloc (.cells #[.int .i64 0,.int .i64 (-1),.int .i64 1048576,.int .i64 1048577] 3)) ((wc.alloc (.cells #[.int .i64 0,.int .i64 (-1),.int .i64 1048576,.int .i64 1048577] 3)).setCell ⟨h1,0,none⟩ (.int .i64 pl)):=Kept.setCell (F:=λk=>k=h1) (Kept.refl _ _) (p:=⟨h1,0,none⟩) (.inl rfl) _;have bu:=(BU.out.trans (bd.mono BU.out.size)).setCell (p:=⟨h1,0,none⟩) HU1.out (.int .i64 pl);have vw:=V6.out.below bu;exact⟨W2.store 0 _,G3.kept hk3 (λe=>HNE.out e.symm),E6.out.gx.below bu,GCX.out,by rw[HST.out];decide,⟨vw.ll,vw.lb,vw.s,vw.sb,vw.sn⟩,by show v.s.length≤100000;rw[SLV.out];decide,HVC.out,E6.out.bel.trans (bu.mono E6.out.bel.size)⟩)
    clear hpl bd W2 G3
    go_upto_region 22 with(fail)
    obtain⟨wn,hwn⟩:∃ Z,(wc.alloc (.cells #[.int .i64 0,.int .i64 (-1),.int .i64 1048576,.int .i64 1048577] 3)).setCell ⟨h1,0,none⟩ (.int .i64 pl)=Z:=⟨_,rfl⟩;rw[hwn] at FN ⊢;obtain⟨vn,hvn⟩:∃ z:Vv, { v with p:=pl } =z:=⟨_,rfl⟩;rw[hvn] at FN;clear hwn hvn c0 z0 cT
    go_upto_region 22 with(fail)
    obtain⟨U,hU⟩:∃ Z,wn.drew=Z:=⟨_,rfl⟩;have F1:=hid (FN.out.below (show Below wn.heap.size wn U from by rw[←hU];exact(Below.refl _ _).drew));have FXX:=hid (gv_size x);have FVV:=hid (vv_size FN.out.vw.ll);refine wp_region_held (S:=λY=>Y.rangeAt h2 0 (gv x)∧Y.rangeAt h1 0 (vv vn)) (by kernel_rfl) ?_;change wpAnyH _ _ _ _ _ _ _ _ wn.drew;rw[hU];clear hU;have RS:=hid (λY (h:FS w Y h1 h2 x vn)=>show Y.rangeAt h2 0 (gv x)∧Y.rangeAt h1 0 (vv vn) from⟨rows_of_blk h.bg,rows_of_blk h.bv⟩);have C1:=hid (λY (h:FS w Y h1 h2 x vn)=>vCheck_any x vn Y h.gx h.vw (HKI.out Y h.bel) (HK.out Y h.bel) h.sl);have C2:=hid (λY (h:FS w Y h1 h2 x vn)=>refChk_any x vn Y h.gx h.gc h.st h.vw h.sl h.sc);obtain⟨R,hR⟩:∃ z,chkV x vn=z:=⟨_,rfl⟩;rw[hR] at C1 C2;clear hR;have r1:=RS.out U F1.out;refine rd9 0 λK hK=>?_
    go_simp;refine(TO.out U F1.out.bel).mono ?_
    rintro e wa ⟨rfl,ba⟩
    have Fa:=hid (F1.out.below ba);have ra:=RS.out wa Fa.out;refine hK.out _ _ ra (λ_=>?_);clear hK K ba F1 r1;refine tka9 1 ra ?_;refine tkg9 2 (v:= .agg (gv x).toArray) (yieldsIf_load_mid (by kernel_rfl) 27 (.tmp 20) rfl h2 0 (by go_simp) (gv x) _ (λ_ h=>h.1) Tryz.underlying27 rfl (FXX.out)) ra ?_;refine tkg9 3 (v:= .agg (vv vn).toArray) (yieldsIf_load_mid (by kernel_rfl) 33 (.tmp 19) rfl h1 0 (by go_simp) (vv vn) _ (λ_ h=>h.2) Tryz.underlying33 rfl (FVV.out)) ra ?_;refine tkg9 5 (v:= .agg (gv x).toArray) (yieldsIf_load_mid (by kernel_rfl) 27 (.tmp 20) rfl h2 0 (by go_simp) (gv x) _ (λ_ h=>h.1) Tryz.underlying27 rfl (FXX.out)) ra ?_;refine tkg9 6 (v:= .agg (vv vn).toArray) (yieldsIf_load_mid (by kernel_rfl) 33 (.tmp 19) rfl h1 0 (by go_simp) (vv vn) _ (λ_ h=>h.2) Tryz.underlying33 rfl (FVV.out)) ra ?_;refine rd9 4 λK hK=>?_
    go_simp;refine(C1.out wa Fa.out).mono ?_
    rintro e wb ⟨rfl,bb⟩
    have Fb:=hid (Fa.out.below bb);refine hK.out _ _ (RS.out wb Fb.out) (λ_=>?_);clear hK K bb Fa ra;refine rd9 7 λK hK=>?_
    go_simp;refine(C2.out wb Fb.out).mono ?_
    rintro e wd ⟨rfl,bd⟩
    have Fd:=hid (Fb.out.below bd);have rd:=RS.out wd Fd.out;refine hK.out _ _ rd (λ_=>?_);clear hK K bd Fb;refine tka9 8 rd ?_;refine tka9 9 rd ?_;refine tka9 10 rd ?_;refine wpAnyH_done (by kernel_rfl) ?_ _;go_simp;go_wp2_with fail
    go_ret;exact⟨rfl,Fd.out.bel⟩
end Go.Proofs.YtjlophplcmidlaaGreatDoor
