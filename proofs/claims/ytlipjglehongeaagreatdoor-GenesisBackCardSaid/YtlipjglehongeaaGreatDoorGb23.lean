/-
  PACKAGE genesis
  PACKAGE genesis
-/
import Derived.Test.YtlipjglehongeaaGreatDoorGb22
import Derived.Test.YtlipjglehongeaaGreatDoorTk
open Go.Lib (hid)
set_option maxRecDepth 100000
namespace Go.Proofs.YtlipjglehongeaaGreatDoor
open Go Go.RowKit Sh
theorem flatten_le {C:Nat} :∀ {l:List Ky},(∀ y∈l,y.X.length≤C)→((l.map (·.X)).flatten).length≤C * l.length
 |[],_=>by simp
 |a::l,h=>by
  have h1:=h a List.mem_cons_self;have h2:=flatten_le (l:=l) λy hy=>h y (List.mem_cons_of_mem _ hy)
  rw[List.map_cons,List.flatten_cons,List.length_append,List.length_cons,Nat.mul_add];omega
structure MK9 (w0 W:World) (l:List Nat):Prop where
 res:Blk W w0.heap.size 36 (u8s zH)
 dig:∃ s r,Dig W (w0.heap.size+1) l s r
 bel:Below w0.heap.size w0 W
set_option maxHeartbeats 1000000 in
theorem marked_t (s:ByteArray) (l:List Ky) (p:Option Addr) (n c:Nat) (w:World) (hln:l.length=n) (hr:RowL w p 1 kyv l) (hs:∀ y∈l,Sr w y.A y.X) (hb:∀ y∈l,Bytes y.X) (hc:∀ y∈l,y.X.length≤y.c∧y.X.length≤2000000) (hn:n≤5) (h4:s.size≤100) (hk:KAt w):
  Calls Tryz.prog 69 #[.string s,.slice p n c] w λe w'=>e= .returned (.agg (u8s (sum (bs s++(l.map (·.X)).flatten))).toArray)∧Below w.heap.size w w':=by
 have HR:=hid hr;have HS:=hid hs;have HB:=hid hb;have HC:=hid hc;have HN:=hid hn;have H4:=hid h4;have HK:=hid hk;have HG:=hid hk.lt;have HLN:=hid hln;have FL:=hid (λ(j:Nat)=>show((l.take j).map (·.X)).flatten.length≤10000000 from by
  have h1:=flatten_le (C:=2000000) (l:=l.take j) λy hy=>(hc y (List.mem_of_mem_take hy)).2
  have h2:(l.take j).length≤5:=by rw[List.length_take];omega
  omega)
 clear hr hs hb hc h4 hk hln;obtain⟨S,hS⟩:∃ S,sum (bs s++(l.map (·.X)).flatten)=S:=⟨_,rfl⟩;have HSL:=hid (show S.length=32 from by rw[←hS];rfl);have HSS:=hid hS;rw[hS];clear hS
 go_enter Tryz.func69,Tryz.ntmps69
 go_wp2_with fail
 refine(new_t _).mono ?_
 rintro e w1 ⟨rfl,hw⟩
 have k:Blk w1 w.heap.size 36 (u8s zH)∧Dig w1 (w.heap.size+1) [] z0 (List.replicate 64 0)∧Below w.heap.size w w1∧w1.heap.size=w.heap.size+2:=by
  rw[hw];exact⟨(Blk.new w 36 (u8s zH)).alloc _,Dig.zero (Blk.new2 w _ 175 DZ),((Below.refl _ _).alloc (Nat.le_refl _) _).alloc (by simp) _,by simp⟩
 obtain⟨k0,k1,bw,hz⟩:=k;have K0:=hid k0;have K1:=hid k1;have BW:=hid bw;have HZ:=hid hz;clear hw k0 k1 bw hz;obtain⟨w2,c2,e2,hc2,s2,b2⟩:=conv_txt s w1;have S2:=hid s2;have B2:=hid b2;have HC2:=hid hc2;clear s2 b2 hc2;go_wp2_with fail
 clear e2;have BB:=hid (BW.out.trans (B2.out.mono BW.out.size));have D2:=hid (K1.out.below B2.out K1.out.blk.lt);have R2:=hid (K0.out.below B2.out K0.out.lt);refine(write_u w.heap.size (w.heap.size+1) _ _ [] (bs s) (some ⟨w1.heap.size,0,none⟩) s.size c2 w2 D2.out (bs_bytes s) (Sl.ne S2.out (λa ha=>by cases ha;show w1.heap.size≠w.heap.size+1;have:=HZ.out;omega)) (bs_length s) HC2.out (by have:=H4.out;show 0+s.size<_;omega) (HK.out.below BB.out HG.out) (by omega) HG.out).mono ?_
 rintro e w3 ⟨rfl,d3,t3,b3⟩
 rw[List.nil_append] at d3;have M3:=hid (show MK9 w w3 (bs s) from⟨R2.out.but t3 R2.out.lt (by omega),d3,BB.out.trans b3⟩);clear d3 t3 b3 K0 K1 BW BB D2 R2 S2 B2 HC2 HZ;go_wp2_with fail
 go_loopw [15] (λt wr=>∃ j:Nat,j≤n∧t= .int .i64 (j:Int)∧MK9 w wr (bs s++((l.take j).map (·.X)).flatten)) (λt _=>n- (intOf t).toNat)
 case atStart=>exact⟨0,by omega,rfl,by rw[List.take_zero,List.map_nil,List.flatten_nil,List.append_nil];exact M3.out⟩
 case round=>
  clear M3;obtain⟨j,hj,rfl,mj⟩:=hrel;have MJ:=hid mj;clear mj;have LJ:=hid (show(bs s++((l.take j).map (·.X)).flatten).length≤10000100 from by
   rw[List.length_append,bs_length];have h1:=FL.out j;have h2:=H4.out;omega)
  by_cases hlt:j<n
  ·obtain⟨y,hy⟩:∃ y,l[j]? =some y:=⟨_,List.getElem?_eq_getElem (by rw[HLN.out];exact hlt)⟩;obtain⟨bq,o,hpe,hbl,rg⟩:=(HR.out.below MJ.out.bel) j y hy;subst hpe;have c1:wr.cell? ⟨bq,o+j,none⟩=some (.slice y.A y.X.length y.c):=by have:=rg 0 _ rfl;rw[Nat.mul_one,Nat.add_zero] at this;exact this
   have j1:(j:Int)< (n:Int):=by omega
   have HY:=hid hy;have HM:=List.mem_of_getElem? hy;obtain⟨ds,dr,dd⟩:=MJ.out.dig;have W_:=hid (write_u w.heap.size (w.heap.size+1) ds dr _ y.X y.A y.X.length y.c wr dd (HB.out y HM) (Sl.old (HS.out y HM) MJ.out.bel (by omega)) rfl (HC.out y HM).1 (by have h1:=LJ.out;have h2:=(HC.out y HM).2;omega) (HK.out.below MJ.out.bel HG.out) (by omega) HG.out);clear rg hbl hy HM dd;go_wp2_with fail
   refine W_.out.mono ?_
   rintro e w7 ⟨rfl,d7,t7,b7⟩
   have M7:=hid (show MK9 w w7 ((bs s++((l.take j).map (·.X)).flatten)++y.X) from⟨MJ.out.res.but t7 MJ.out.res.lt (by omega),d7,MJ.out.bel.trans b7⟩);clear d7 t7 b7 W_ MJ c1;go_wp2_with fail
   go_roundw
   case rel=>exact⟨j+1,by omega,by go_num,by rw[flatten_snoc HY.out,←List.append_assoc];exact M7.out⟩
   case measure=>simp[intOf];omega
  ·obtain rfl:j=n:=by omega
   clear hlt;rw[List.take_of_length_le (by rw[HLN.out];exact Nat.le_refl _)] at MJ LJ;obtain⟨ds,dr,dd⟩:=MJ.out.dig;have DS:=hid (dsum_t (w.heap.size+1) ds dr _ wr dd (by have:=LJ.out;omega) (HK.out.below MJ.out.bel HG.out));clear dd;rw[HSS.out] at DS;go_wp2_with fail
   refine DS.out.mono ?_
   rintro e w5 ⟨rfl,b5⟩
   have B5:=hid (MJ.out.bel.trans (b5.mono MJ.out.bel.size));have K5:=hid (MJ.out.res.below b5 MJ.out.res.lt);clear b5 MJ DS;have HZL:=hid (show(u8s zH).length=(u8s S).length by rw[u8s_length,u8s_length,HSL.out];rfl)
   go_wp2_with ((with_reducible refine at_op (.store 36 (.tmp 4) (.tmp 24)) rfl ?_);go_must (refine store_blk 36 (.tmp 4) (.tmp 24) w.heap.size 36 (u8s zH) (u8s S) rfl rfl K5.out HZL.out (hash_size _ HSL.out) (u8s_oneD _) rfl rfl ?_))
   exact ret_blk (p:=4) (ty:=36) rfl rfl w.heap.size 36 _ _ rfl (K5.out.setRow _) Tryz.underlying36 rfl (hash_size _ HSL.out) ⟨rfl,below_setRow B5.out (Nat.le_refl _) _⟩
def anM:ByteArray:= { data:= #[71,69,78,69] }
def liM:ByteArray:= { data:= #[76,73,78,75] }
def anE (x:Gv):List Nat:=sum (bs anM++pg x)
theorem pg_le {x:Gv} (hm:begB x=true) (hs:x.st.length≤1000000):(pg x).length≤1000400:=by
 have m:=begB_h hm;have h1:=flatten_le (C:=56) (l:=x.ks) λy hy=>Nat.le_of_eq (formN_len (m.k y hy))
 have h2:=m.n;have h3:=m.f2;unfold pg putG;simp only[List.length_append,beN_length,txtN];omega
theorem pg_bytes {x:Gv} (hb:∀ y∈x.ks,Bytes y.X) (hs:Bytes x.st):Bytes (pg x):=putE_bytes (e:=x.ge) (λz hz=>by
 obtain⟨y,hy,rfl⟩:=List.mem_map.1 hz;exact hb y hy) hs
theorem rowL_one (y:Ky) (w:World) (e:TypeId):RowL (w.alloc (.cells #[.slice y.A y.X.length y.c] e)) (some ⟨w.heap.size,0,none⟩) 1 kyv [y]:=row_one kyv 1 y w e
set_option maxHeartbeats 1000000 in
theorem ganch_t (x:Gv) (w:World) (h:GvW w x) (hm:begB x=true) (hk:KAt w):
  Calls Tryz.prog 65 #[.agg (gv x).toArray] w λe w'=>e= .returned (.agg (u8s (anE x)).toArray)∧Below w.heap.size w w':=by
 have S0:=hid (HG9.new h);have HK:=hid hk;have HG:=hid hk.lt;have FG:=hid (gv_size x);have HM:=hid hm;have LX:=hid (pg_le hm h.sl);have BX:=hid (pg_bytes h.kb h.sb);clear h hk hm;obtain⟨S,hS⟩:∃ S,anE x=S:=⟨_,rfl⟩;have HSL:=hid (show S.length=32 from by rw[←hS];rfl);have HSS:=hid hS;rw[hS];clear hS
 go_enter Tryz.func65,Tryz.ntmps65
 go_upto_region 1 with(fail)
 refine world_at (λY=>HG9 w Y x zH) S0.out ?_
 rintro V s1
 have S1:=hid s1;clear s1 S0;have WT:=hid (written_t x V S1.out.gb.rx HM.out);have GA:=hid S1.out.gb.a
 go_wp2_with ((with_reducible refine load_blk 25 (.tmp 1) w.heap.size 25 (gv x) _ rfl rfl ?_ Tryz.underlying25 ?_ ?_ ?_ ?_);exact GA.out;exact rfl;exact FG.out;exact rfl)
 refine WT.out.mono ?_
 rintro e w1 ⟨u,rfl,fr⟩
 obtain⟨A,c,rfl,hc⟩:=own_form fr.1;have S2:=hid (S1.out.below fr.2);have R2:=hid (Sr.of_own fr.1);clear S1 WT GA fr;have BZ:=hid (show Below w1.heap.size w1 (w1.alloc (.cells #[.slice A (pg x).length c] 23)) from(Below.refl _ _).alloc (Nat.le_refl _) _);have S3:=hid (S2.out.below BZ.out);have MT:=hid (marked_t anM [⟨A,c,pg x⟩] (some ⟨w1.heap.size,0,none⟩) 1 1 (w1.alloc (.cells #[.slice A (pg x).length c] 23)) rfl (rowL_one ⟨A,c,pg x⟩ w1 23)
  (λy hy=>by rw[List.mem_singleton.1 hy];exact R2.out.below BZ.out) (λy hy=>by rw[List.mem_singleton.1 hy];exact BX.out) (λy hy=>by rw[List.mem_singleton.1 hy];exact⟨hc,by have:=LX.out;show(pg x).length≤_;omega⟩) (by decide) (by decide) (HK.out.below S3.out.gb.bel HG.out))
 rw[show bs anM++(List.map (λy=>y.X) [(⟨A,c,pg x⟩:Ky)]).flatten=bs anM++pg x by simp,show sum (bs anM++pg x)=S from HSS.out] at MT;clear hc R2 BZ S2 LX BX;unfold anM at MT;go_wp2_with fail
 refine MT.out.mono ?_
 rintro e w2 ⟨rfl,b2⟩
 have S4:=hid (S3.out.below b2);clear S3 MT b2;have RES:=hid S4.out.res;have RZ:=hid (S4.out.res.setRow (u8s S));have BF:=hid (below_setRow S4.out.gb.bel (g:=w.heap.size+1) (by omega) (u8s S).toArray);have FZ:=hid (hash_size S HSL.out);have HZL:=hid (show(u8s zH).length=(u8s S).length by rw[u8s_length,u8s_length,HSL.out];rfl)
 go_wp2_with ((with_reducible refine at_op (.store 36 (.tmp 2) (.tmp 6)) rfl ?_);go_must (refine store_blk 36 (.tmp 2) (.tmp 6) (w.heap.size+1) 36 (u8s zH) (u8s S) rfl rfl RES.out HZL.out FZ.out (u8s_oneD _) rfl rfl ?_))
 exact ret_blk (p:=2) (ty:=36) rfl rfl (w.heap.size+1) 36 _ _ rfl RZ.out Tryz.underlying36 rfl FZ.out ⟨rfl,BF.out⟩
set_option maxHeartbeats 1000000 in
theorem gAnchor_yes (x:Gv) (w:World) (h:GvW w x) (hi:KI w) (hm:begB x=true) (hk:KAt w):
  Calls Tryz.prog 20 #[.agg (gv x).toArray] w λe w'=>e= .returned (.agg (u8s (anE x)).toArray)∧Below w.heap.size w w':=by
 have S0:=hid (HG9.new h);have HI:=hid hi;have HK:=hid hk;have HG:=hid hk.lt;have FG:=hid (gv_size x);have HM:=hid hm;clear h hk hm hi;obtain⟨S,hS⟩:∃ S,anE x=S:=⟨_,rfl⟩;have HSL:=hid (show S.length=32 from by rw[←hS];rfl);have HSS:=hid hS;rw[hS];clear hS
 go_enter Tryz.func20,Tryz.ntmps20
 go_upto_region 1 with(fail)
 refine world_at (λY=>HG9 w Y x zH) S0.out ?_
 rintro V s1
 have S1:=hid s1;clear s1 S0;have MT:=hid (gMay_t x V S1.out.gb.rx (HI.out.kept S1.out.gb.bel));rw[HM.out] at MT;have GA:=hid S1.out.gb.a
 go_wp2_with ((with_reducible refine load_blk 25 (.tmp 1) w.heap.size 25 (gv x) _ rfl rfl ?_ Tryz.underlying25 ?_ ?_ ?_ ?_);exact GA.out;exact rfl;exact FG.out;exact rfl)
 refine MT.out.mono ?_
 rintro e w1 ⟨rfl,b1⟩
 have S2:=hid (S1.out.below b1);clear S1 MT b1 GA;have AT:=hid (ganch_t x w1 S2.out.gb.rx HM.out (HK.out.below S2.out.gb.bel HG.out));rw[HSS.out] at AT;have GA:=hid S2.out.gb.a
 go_wp2_with ((with_reducible refine load_blk 25 (.tmp 1) w.heap.size 25 (gv x) _ rfl rfl ?_ Tryz.underlying25 ?_ ?_ ?_ ?_);exact GA.out;exact rfl;exact FG.out;exact rfl)
 refine AT.out.mono ?_
 rintro e w2 ⟨rfl,b2⟩
 have S4:=hid (S2.out.below b2);clear S2 AT b2 GA;have RES:=hid S4.out.res;have RZ:=hid (S4.out.res.setRow (u8s S));have BF:=hid (below_setRow S4.out.gb.bel (g:=w.heap.size+1) (by omega) (u8s S).toArray);have FZ:=hid (hash_size S HSL.out);have HZL:=hid (show(u8s zH).length=(u8s S).length by rw[u8s_length,u8s_length,HSL.out];rfl)
 go_wp2_with ((with_reducible refine at_op (.store 36 (.tmp 2) (.tmp 8)) rfl ?_);go_must (refine store_blk 36 (.tmp 2) (.tmp 8) (w.heap.size+1) 36 (u8s zH) (u8s S) rfl rfl RES.out HZL.out FZ.out (u8s_oneD _) rfl rfl ?_))
 exact ret_blk (p:=2) (ty:=36) rfl rfl (w.heap.size+1) 36 _ _ rfl RZ.out Tryz.underlying36 rfl FZ.out ⟨rfl,BF.out⟩
theorem spMay_new (rd wr:Int):spMay (newS rd wr)=true:=by
 unfold spMay newS
 dsimp only
 rw[al15X,al15X];rfl
theorem spMay_beg {x:Gv} (hm:begB x=true):spMay (begS x)=true:=by
 unfold begS;rw[if_pos hm]
 split
 ·exact spMay_new _ _
 ·rename_i h0
  have h:stB x=true:=by
   unfold begB at hm;simp only[Bool.and_eq_true] at hm;exact hm.2.2.2.2
  unfold stB stQ at h;rw[decide_eq_false h0,Bool.false_or] at h;simp only[Bool.and_eq_true] at h;have h1:=h.1;unfold okS at h1;simp only[Bool.and_eq_true] at h1;exact h1.2
theorem rowL_two (y z:Ky) (w:World) (e:TypeId):RowL (w.alloc (.cells #[.slice y.A y.X.length y.c,.slice z.A z.X.length z.c] e)) (some ⟨w.heap.size,0,none⟩) 1 kyv [y,z]:=λj u hu=>by
 have hb:=Blk.new w e [Value.slice y.A y.X.length y.c,Value.slice z.A z.X.length z.c]
 match j,hu with
 |0,hu=>
  obtain rfl:y=u:=by simpa using hu
  refine⟨w.heap.size,0,rfl,by simp,λi v hv=>?_⟩
  match i,hv with
  |0,hv=>exact(hb.cell 0).trans hv
  |i+1,hv=>simp[kyv] at hv
 |1,hu=>
  obtain rfl:z=u:=by simpa using hu
  refine⟨w.heap.size,0,rfl,by simp,λi v hv=>?_⟩
  match i,hv with
  |0,hv=>exact(hb.cell 1).trans hv
  |i+1,hv=>simp[kyv] at hv
 |j+2,hu=>simp at hu
theorem sr_blkG {w:World} {g:Nat} {t:TypeId} {xs:List Nat} (h:Blk w g t (u8s xs)):Sr w (some ⟨g,0,none⟩) xs:=λ_=>⟨g,0,rfl,h.lt,λj hj=>by rw[Nat.zero_add,h.cell];exact u8s_get _ _ hj⟩
def liE (x:Gv):List Nat:=sum (bs liM++(anE x++sum (stM++putS (begS x))))
set_option maxHeartbeats 2000000 in
theorem gLink_yes (x:Gv) (w:World) (h:GvW w x) (hi:KI w) (hm:begB x=true) (hk:KAt w):
  Calls Tryz.prog 22 #[.agg (gv x).toArray] w λe w'=>e= .returned (.agg (u8s (liE x)).toArray)∧Below w.heap.size w w':=by
 have S0:=hid (HG9.new h);have HI:=hid hi;have HK:=hid hk;have HG:=hid hk.lt;have FG:=hid (gv_size x);have HM:=hid hm;have SM:=hid (spMay_beg hm);have BT0:=hid (show Bytes (anE x) from sum_bytes _ (app_bytes (bs_bytes _) (pg_bytes h.kb h.sb)));clear h hk hm hi;obtain⟨S,hS⟩:∃ S,liE x=S:=⟨_,rfl⟩;obtain⟨T,hT⟩:∃ T,anE x=T:=⟨_,rfl⟩;have HSL:=hid (show S.length=32 from by rw[←hS];rfl);have HTL:=hid (show T.length=32 from by rw[←hT];rfl);have HTT:=hid hT;have BT_:=hid (show Bytes T from by rw[←hT];exact BT0.out);have HSS:=hid (show sum (bs liM++(T++sum (stM++putS (begS x))))=S from by rw[←hT];exact hS);rw[hS];clear hS hT BT0
 go_enter Tryz.func22,Tryz.ntmps22
 go_upto_region 1 with(fail)
 refine world_at (λY=>HG9 w Y x zH) S0.out ?_
 rintro V s1
 have S1:=hid s1;clear s1 S0;have BT:=hid (begun_t x V S1.out.gb.rx (HI.out.kept S1.out.gb.bel));rw[HM.out] at BT;have GA:=hid S1.out.gb.a
 go_wp2_with ((with_reducible refine load_blk 25 (.tmp 1) w.heap.size 25 (gv x) _ rfl rfl ?_ Tryz.underlying25 ?_ ?_ ?_ ?_);exact GA.out;exact rfl;exact FG.out;exact rfl)
 refine BT.out.mono ?_
 rintro e w1 ⟨y,rfl,hy,yy,b1⟩
 have S2:=hid (S1.out.below b1);have wy:=yy.w;have SY:=hid (show spMay y.sp=true from by rw[hy];exact SM.out);have HY:=hid hy;clear S1 BT b1 GA yy hy SM;have FX_y:=hid (sv_size y wy.l4);have FO_y:=hid (sv_one y);have SL_y:=hid (sv_len y wy.l4);have Z_y:=hid (Blk.new w1 46 [.int .i64 0,.slice none 0 0,.slice none 0 0,.int .i64 0,.int .i64 0,.int .i64 0,.int .i64 0,.int .i64 0,.slice none 0 0,.bool false,.int .i64 0,.int .i64 0,.int .i64 0,.slice none 0 0,.bool false,.int .i64 0,.int .i64 0,.int .i64 0,.slice none 0 0,.bool false,.int .i64 0,.int .i64 0,.int .i64 0,.slice none 0 0,.bool false]);have KN_y:=hid (KSp.new (w1:=w1) (x:=y) wy)
 go_upto_region 2 with((with_reducible refine at_op (.store 46 (.tmp 3) (.tmp 11)) rfl ?_);go_must (refine store_blk 46 (.tmp 3) (.tmp 11) (w1).heap.size 46 _ (sv y) rfl rfl Z_y.out SL_y.out.symm FX_y.out FO_y.out rfl rfl ?_))
 obtain⟨V1,hV1⟩:∃ V,((w1).alloc (.cells #[.int .i64 0,.slice none 0 0,.slice none 0 0,.int .i64 0,.int .i64 0,.int .i64 0,.int .i64 0,.int .i64 0,.slice none 0 0,.bool false,.int .i64 0,.int .i64 0,.int .i64 0,.slice none 0 0,.bool false,.int .i64 0,.int .i64 0,.int .i64 0,.slice none 0 0,.bool false,.int .i64 0,.int .i64 0,.int .i64 0,.slice none 0 0,.bool false] 46)).setRow (w1).heap.size (sv y).toArray=V:=⟨_,rfl⟩;rw[hV1] at KN_y ⊢;have K_y:=hid KN_y.out.1;have B_y:=hid KN_y.out.2;clear hV1 KN_y Z_y FO_y SL_y;have S3:=hid (S2.out.below B_y.out);obtain⟨g3,hg3⟩:∃ g,w1.heap.size=g:=⟨_,rfl⟩;rw[hg3] at K_y ⊢;clear S2 B_y wy hg3;have AT:=hid (ganch_t x V1 S3.out.gb.rx HM.out (HK.out.below S3.out.gb.bel HG.out));rw[HTT.out] at AT;have GA:=hid S3.out.gb.a
 go_wp2_with ((with_reducible refine load_blk 25 (.tmp 1) w.heap.size 25 (gv x) _ rfl rfl ?_ Tryz.underlying25 ?_ ?_ ?_ ?_);exact GA.out;exact rfl;exact FG.out;exact rfl)
 refine AT.out.mono ?_
 rintro e w2 ⟨rfl,b2⟩
 have S4:=hid (S3.out.below b2);have K4:=hid (K_y.out.below b2);clear S3 AT b2 GA K_y;have HTZ:=hid (show(u8s zH).length=(u8s T).length by rw[u8s_length,u8s_length,HTL.out];rfl);have Z_h1:=hid (Blk.new w2 36 (u8s zH));have K_h1:=hid (Z_h1.out.setRow (u8s T));have B_h1:=hid (below_setRow ((Below.refl (w2).heap.size w2).alloc (Nat.le_refl _) (.cells (u8s zH).toArray 36)) (Nat.le_refl _) (u8s T).toArray)
 go_upto_region 5 with((with_reducible refine at_op (.store 36 (.tmp 5) (.tmp 17)) rfl ?_);go_must (refine store_blk 36 (.tmp 5) (.tmp 17) (w2).heap.size 36 (u8s zH) (u8s T) rfl rfl Z_h1.out HTZ.out (hash_size _ HTL.out) (u8s_oneD _) rfl rfl ?_))
 obtain⟨V2,hV2⟩:∃ V,((w2).alloc (.cells (u8s zH).toArray 36)).setRow (w2).heap.size (u8s T).toArray=V:=⟨_,rfl⟩;change Code.wp _ _ _ _ (((w2).alloc (.cells (u8s zH).toArray 36)).setRow (w2).heap.size (u8s T).toArray);rw[hV2] at K_h1 B_h1 ⊢;clear hV2 Z_h1;have S5:=hid (S4.out.below B_h1.out);have K5:=hid (K4.out.below B_h1.out);have S2L:=hid S4.out.gb.bel.size;obtain⟨g5,hg5⟩:∃ g,w2.heap.size=g:=⟨_,rfl⟩;rw[hg5] at K_h1 ⊢;clear S4 K4 B_h1 hg5;have DG:=hid (Digest_yes y V2 K5.out.w SY.out (HK.out.below S5.out.gb.bel HG.out));obtain⟨U,hU⟩:∃ U,sum (stM++putS y.sp)=U:=⟨_,rfl⟩;have HUL:=hid (show U.length=32 from by rw[←hU];rfl);have BU_:=hid (show Bytes U from by rw[←hU];exact sum_bytes _ (app_bytes stM_bytes (putS_bytes _)));have HU:=hid (show sum (bs liM++(T++U))=S from by rw[←hU,HY.out];exact HSS.out);rw[hU] at DG;clear hU HSS SY;have KB:=hid K5.out.box
 go_wp2_with ((with_reducible refine load_blk 46 (.tmp 3) g3 46 (sv y) _ rfl rfl ?_ Tryz.underlying46 ?_ ?_ ?_ ?_);exact KB.out;exact rfl;exact FX_y.out;exact rfl)
 refine DG.out.mono ?_
 rintro e w3 ⟨rfl,b3⟩
 have S6:=hid (S5.out.below b3);have K6:=hid (K_h1.out.below b3 K_h1.out.lt);clear b3 S5 K5 KB K_h1 DG;have HUZ:=hid (show(u8s zH).length=(u8s U).length by rw[u8s_length,u8s_length,HUL.out];rfl);have Z_h2:=hid (Blk.new w3 36 (u8s zH));have K_h2:=hid (Z_h2.out.setRow (u8s U));have B_h2:=hid (below_setRow ((Below.refl (w3).heap.size w3).alloc (Nat.le_refl _) (.cells (u8s zH).toArray 36)) (Nat.le_refl _) (u8s U).toArray)
 go_upto_region 6 with((with_reducible refine at_op (.store 36 (.tmp 6) (.tmp 21)) rfl ?_);go_must (refine store_blk 36 (.tmp 6) (.tmp 21) (w3).heap.size 36 (u8s zH) (u8s U) rfl rfl Z_h2.out HUZ.out (hash_size _ HUL.out) (u8s_oneD _) rfl rfl ?_))
 obtain⟨V3,hV3⟩:∃ V,((w3).alloc (.cells (u8s zH).toArray 36)).setRow (w3).heap.size (u8s U).toArray=V:=⟨_,rfl⟩;change Code.wp _ _ _ _ (((w3).alloc (.cells (u8s zH).toArray 36)).setRow (w3).heap.size (u8s U).toArray);rw[hV3] at K_h2 B_h2 ⊢;clear hV3 Z_h2;have S7:=hid (S6.out.below B_h2.out);have K7:=hid (K6.out.below B_h2.out K6.out.lt);obtain⟨g6,hg6⟩:∃ g,w3.heap.size=g:=⟨_,rfl⟩;rw[hg6] at K_h2 ⊢;clear S6 K6 B_h2 hg6;have h5:=sliceAt_all (P:=Tryz.prog) (t:=36) (e:=5) (n:=32) Tryz.underlying36 (by kernel_rfl) g5 0;have h6:=sliceAt_all (P:=Tryz.prog) (t:=36) (e:=5) (n:=32) Tryz.underlying36 (by kernel_rfl) g6 0;obtain⟨W4,hW4⟩:∃ Z,V3.drew=Z:=⟨_,rfl⟩;have bd:Below V3.heap.size V3 W4:=by rw[←hW4];exact(Below.refl _ _).drew
 have S8:=hid (S7.out.below bd);have K8:=hid (K7.out.below bd K7.out.lt);have L8:=hid (K_h2.out.below bd K_h2.out.lt);clear bd S7 K7 K_h2;refine wp_region_held (S:=λ_=>True) (by kernel_rfl) ?_;change wpAnyH _ _ _ _ _ _ _ _ V3.drew;rw[hW4];clear hW4;have r0:True:=trivial;refine tka9 0 r0 ?_;refine tka9 1 r0 ?_;refine rdw9 2 λK hK=>?_
 go_simp;refine hK.out _ _ trivial (λhz=>?_);clear hK K hz h5 h6;have BZ:=hid (show Below W4.heap.size W4 (W4.alloc (.cells #[.slice (some ⟨g5,0,none⟩) 32 32,.slice (some ⟨g6,0,none⟩) 32 32] 23)) from(Below.refl _ _).alloc (Nat.le_refl _) _);have S9:=hid (S8.out.below BZ.out);have RT:=hid (sr_blkG K8.out);have RU:=hid (sr_blkG L8.out);have MT:=hid (marked_t liM [⟨some ⟨g5,0,none⟩,32,T⟩,⟨some ⟨g6,0,none⟩,32,U⟩] (some ⟨W4.heap.size,0,none⟩) 2 2 (W4.alloc (.cells #[.slice (some ⟨g5,0,none⟩) 32 32,.slice (some ⟨g6,0,none⟩) 32 32] 23)) rfl
  (by
    have h:=rowL_two ⟨some ⟨g5,0,none⟩,32,T⟩ ⟨some ⟨g6,0,none⟩,32,U⟩ W4 23
    dsimp only at h
    rw[HTL.out,HUL.out] at h;exact h)
  (λq hq=>by
   simp only[List.mem_cons,List.not_mem_nil,or_false] at hq;rcases hq with rfl |rfl
   ·exact RT.out.below BZ.out
   ·exact RU.out.below BZ.out)
  (λq hq=>by
   simp only[List.mem_cons,List.not_mem_nil,or_false] at hq;rcases hq with rfl |rfl
   ·exact BT_.out
   ·exact BU_.out)
  (λq hq=>by
   simp only[List.mem_cons,List.not_mem_nil,or_false] at hq;rcases hq with rfl |rfl
   ·exact⟨by show T.length≤32;rw[HTL.out];exact Nat.le_refl _,by show T.length≤_;rw[HTL.out];decide⟩
   ·exact⟨by show U.length≤32;rw[HUL.out];exact Nat.le_refl _,by show U.length≤_;rw[HUL.out];decide⟩) (by decide) (by decide) (HK.out.below S9.out.gb.bel HG.out))
 rw[show bs liM++(List.map (λy=>y.X) [(⟨some ⟨g5,0,none⟩,32,T⟩:Ky),⟨some ⟨g6,0,none⟩,32,U⟩]).flatten=bs liM++(T++U) by simp,HU.out] at MT;clear RT RU BZ S8 K8 L8;unfold liM at MT;refine rdw9 3 λK hK=>?_
 go_simp;refine MT.out.mono ?_
 rintro e w5 ⟨rfl,b5⟩
 have SA:=hid (S9.out.below b5);clear S9 MT b5;refine hK.out _ _ trivial (λhz=>?_);clear hK K hz;have FZ:=hid (hash_size S HSL.out);have HZL:=hid (show(u8s zH).length=(u8s S).length by rw[u8s_length,u8s_length,HSL.out];rfl);refine rdw9 4 λK hK=>?_
 refine wstore_part 36 (.tmp 2) (.tmp 26) (w.heap.size+1) 0 36 [] (u8s zH) [] (u8s S) rfl (by simpa using SA.out.res) rfl HZL.out FZ.out (u8s_oneD _) rfl rfl ?_;intro w6 a1 a2 _;have RZ:=hid (show Blk w6 (w.heap.size+1) 36 (u8s S) from by simpa using a1.out);have BF:=hid (show Below w.heap.size w w6 from kept_below SA.out.gb.bel (a2.out.keptOne rfl) (by omega));refine hK.out _ _ trivial (λhz=>?_);clear hK K hz a1 a2 SA;refine wpAnyH_done (by kernel_rfl) ?_ _;go_simp;go_wp2_with fail
 exact ret_blk (p:=2) (ty:=36) rfl rfl (w.heap.size+1) 36 _ _ rfl RZ.out Tryz.underlying36 rfl FZ.out ⟨rfl,BF.out⟩
end Go.Proofs.YtlipjglehongeaaGreatDoor
