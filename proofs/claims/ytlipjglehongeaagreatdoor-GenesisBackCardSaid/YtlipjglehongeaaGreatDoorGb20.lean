/-
  PACKAGE genesis
-/
import Derived.Test.YtlipjglehongeaaGreatDoorGb19
open Go.Lib (hid)
set_option maxRecDepth 100000
namespace Go.Proofs.YtlipjglehongeaaGreatDoor
open Go Go.RowKit Sh
def g1 (xs:List Nat):=rNum xs false 1
def g2 (xs:List Nat):=rNum (g1 xs).2.1 (g1 xs).2.2 1
def g3 (xs:List Nat):=rNum (g2 xs).2.1 (g2 xs).2.2 1
def g4 (xs:List Nat):=kRd (g3 xs).2.1 (g3 xs).2.2 (3 * (g1 xs).1 +1)
def g5 (xs:List Nat):=rTxt (g4 xs).2.1 (g4 xs).2.2 (g4 xs).2.1.length
def gotE (xs:List Nat):Ge:=⟨((g1 xs).1 :Nat),((g2 xs).1 :Nat),((g3 xs).1 :Nat),(g4 xs).1,(g5 xs).1⟩
def okE (xs:List Nat):Bool:=fltB ((g1 xs).1 :Nat) && (decide (endN (g5 xs).2.1 (g5 xs).2.2 =0) && begQ (gotE xs))
def zGv:Gv:=⟨0,0,0,none,0,[],none,0,[]⟩
theorem zGv_w (W:World):GvW W zGv:=⟨RowL.nil,(λy hy=>by cases hy),(λy hy=>by cases hy),(λy hy=>by cases hy),Nat.zero_le _,Sr.nil,nil_bytes,Nat.zero_le _,Nat.zero_le _⟩
theorem built_g9 (a b c:Int):Tryz.prog.built 25 [(0,.int .i64 a),(1,.int .i64 b),(2,.int .i64 c)]=some #[.int .i64 a,.int .i64 b,.int .i64 c,.slice none 0 0,.slice none 0 0]:=by kernel_rfl
theorem built_gz:Tryz.prog.built 25 []=some (gv zGv).toArray:=by kernel_rfl
structure GK9 (W:World) (k5 n:Nat) (l:List (List Nat)):Prop where
 room:Blk W k5 148 (u8s (l.flatten++List.replicate (392-56 * l.length) 0))
 keys:Blk W (k5+1) 23 (slotsAt k5 n n)
theorem GK9.kept {W W':World} {k5 n g:Nat} {l:List (List Nat)} (h:GK9 W k5 n l) (hk:Kept (λk=>k=g) W W') (h1:k5≠g) (h2:k5+1≠g):GK9 W' k5 n l:=⟨h.room.kept hk h1,h.keys.kept hk h2⟩
theorem GK9.below {W W':World} {k5 n:Nat} {l:List (List Nat)} (h:GK9 W k5 n l) (hb:Below W.heap.size W W'):GK9 W' k5 n l:=⟨h.room.below hb h.room.lt,h.keys.below hb h.keys.lt⟩
theorem flat_at:∀ (l:List (List Nat)),(∀ x∈l,x.length=56)→∀ (i t:Nat),i<l.length→t<56→gt l.flatten (i * 56+t)=gt (l.getD i []) t
 |[],_,i,t,hi,_=>by simp at hi
 |a::l,h,0,t,_,ht=>by
  have ha:=h a List.mem_cons_self;simp only[gt,List.getD_eq_getElem?_getD,List.flatten_cons];rw[List.getElem?_append_left (by omega)];simp
 |a::l,h,i+1,t,hi,ht=>by
  have ha:=h a List.mem_cons_self;have ih:=flat_at l (λy hy=>h y (List.mem_cons_of_mem _ hy)) i t (by simpa using hi) ht;simp only[gt,List.getD_eq_getElem?_getD,List.flatten_cons] at ih ⊢;rw[List.getElem?_append_right (by omega),show(i+1) * 56+t-a.length=i * 56+t by omega,ih];simp
theorem keysAt_X (k5:Nat) (l:List (List Nat)):(keysAt k5 l).map (·.X)=l:=by
 unfold keysAt;rw[List.map_map];apply List.ext_getElem
 ·simp
 ·intro i h1 h2;simp[List.getD_eq_getElem?_getD,List.getElem?_eq_getElem h2]
theorem GK9.w {W:World} {k5 n:Nat} {l:List (List Nat)} (h:GK9 W k5 n l) (hn:l.length=n) (hl:∀ x∈l,x.length=56):RowL W (some ⟨k5+1,0,none⟩) 1 kyv (keysAt k5 l)∧∀ y∈keysAt k5 l,Sr W y.A y.X∧y.X∈l:=by
 have hi:∀ i,i<l.length→l.getD i []∈l:=λi hi=>by rw[List.getD_eq_getElem?_getD,List.getElem?_eq_getElem hi];exact List.getElem_mem hi
 refine⟨λj y hy=>?_,λy hy=>?_⟩
 ·unfold keysAt at hy;rw[List.getElem?_map] at hy;obtain⟨i,hi2,rfl⟩:=Option.map_eq_some_iff.1 hy;obtain⟨hj,rfl⟩:=List.getElem?_eq_some_iff.1 hi2;have hj2:j<l.length:=by simpa using hj
  refine⟨k5+1,0,rfl,h.keys.lt,λt v hv=>?_⟩;simp only[List.getElem_range,kyv] at hv;have ht:t=0:=by have:=(List.getElem?_eq_some_iff.1 hv).1;simpa using this
  subst ht;rw[List.getElem?_cons_zero] at hv;rw[show 0+j * 1+0=j by omega,h.keys.cell,slots_get _ _ _ _ (by omega),←hv,hl _ (hi j hj2)]
 ·unfold keysAt at hy;obtain⟨i,hi2,rfl⟩:=List.mem_map.1 hy;have hj2:i<l.length:=List.mem_range.1 hi2;refine⟨λ_=>⟨k5,i * 56,rfl,h.room.lt,λt ht=>?_⟩,hi i hj2⟩;have ht2:t<56:=by rw[hl _ (hi i hj2)] at ht;exact ht
  have hf:l.flatten.length=56 * l.length:=flat56 hl;rw[h.room.cell,u8s_get _ _ (by rw[List.length_append,hf];omega),←flat_at l hl i t hj2 ht2];simp only[gt,List.getD_eq_getElem?_getD];rw[List.getElem?_append_left (by rw[hf];omega)]
structure GG9 (B:Nat) (w0 W:World) (g g5:Nat) (zs:List Nat) (bad:Bool) (x:Gv):Prop where
 rd:RdF (λk=>k<B∧k≠g) W g zs bad
 res:Blk W w0.heap.size 25 (gv zGv)
 bx:Blk W g5 25 (gv x)
 og:w0.heap.size<g
 gB:g<B
 ob:B≤g5
 bel:Below w0.heap.size w0 W
section
variable {B : Nat} {w0 W W' : World} {g g5 : Nat} {zs zs' : List Nat} {bad bad' : Bool} {x x' : Gv}
theorem GG9.read (h:GG9 B w0 W g g5 zs bad x) (hk:Kept (λk=>k=g) W W') (hr:RdF (λk=>k<B∧k≠g) W' g zs' bad'):GG9 B w0 W' g g5 zs' bad' x:=by
 have h1:=h.og;have h2:=h.gB;have h3:=h.ob;exact⟨hr,h.res.kept hk (by omega),h.bx.kept hk (by omega),h.og,h.gB,h.ob,kept_below h.bel hk (by omega)⟩
theorem GG9.below (h:GG9 B w0 W g g5 zs bad x) (hb:Below W.heap.size W W'):GG9 B w0 W' g g5 zs bad x:=
 ⟨h.rd.below hb,h.res.below hb h.res.lt,h.bx.below hb h.bx.lt,h.og,h.gB,h.ob,h.bel.trans (hb.mono h.bel.size)⟩
theorem GG9.put (h:GG9 B w0 W g g5 zs bad x) (hk:Kept (λk=>k=g5) W W') (hb:Blk W' g5 25 (gv x')):GG9 B w0 W' g g5 zs bad x':=by
 have h1:=h.og;have h2:=h.gB;have h3:=h.ob;exact⟨h.rd.stays hk (by omega) (λk hf e=>by omega),h.res.kept hk (by omega),hb,h.og,h.gB,h.ob,kept_below h.bel hk (by omega)⟩
end
theorem rTxt_tx (xs:List Nat) (bad:Bool) (n:Nat) (h:Bytes xs):Bytes (rTxt xs bad n).1 :=by
 unfold rTxt
 split
 ·exact bytes_take (bytes_drop h _) _
 ·exact nil_bytes
structure GH9 (B:Nat) (w0 W:World) (g:Nat) (zs:List Nat) (bad:Bool):Prop where
 rd:RdF (λk=>k<B∧k≠g) W g zs bad
 res:Blk W w0.heap.size 25 (gv zGv)
 og:w0.heap.size<g
 gB:g<B
 ob:B≤W.heap.size
 bel:Below w0.heap.size w0 W
theorem GH9.read {B:Nat} {w0 W W':World} {g:Nat} {zs zs':List Nat} {bad bad':Bool} (h:GH9 B w0 W g zs bad) (hk:Kept (λk=>k=g) W W') (hr:RdF (λk=>k<B∧k≠g) W' g zs' bad'):GH9 B w0 W' g zs' bad':=by
 have h1:=h.og;exact⟨hr,h.res.kept hk (by omega),h.og,h.gB,Nat.le_trans h.ob hk.size,kept_below h.bel hk (by omega)⟩
theorem GH9.alloc {B:Nat} {w0 W:World} {g:Nat} {zs:List Nat} {bad:Bool} (h:GH9 B w0 W g zs bad) (x:Gv):GG9 B w0 (W.alloc (.cells (gv x).toArray 25)) g W.heap.size zs bad x:=by
 have bz:Below W.heap.size W (W.alloc (.cells (gv x).toArray 25)):=(Below.refl _ _).alloc (Nat.le_refl _) _;exact⟨h.rd.below bz,h.res.below bz h.res.lt,Blk.new W _ (gv x),h.og,h.gB,h.ob,h.bel.trans (bz.mono h.bel.size)⟩
theorem gy_w {W:World} {k5 n B c:Nat} {A:Option Addr} {ks:List (List Nat)} {st:List Nat} {a b d:Int} (k:GK9 W k5 n ks) (hn:ks.length=n) (h7:n≤7) (hl:∀ x∈ks,x.length=56) (hb:∀ x∈ks,Bytes x) (o:W.ownsRow B 5 1 (.slice A st.length c) st.length (u8s st)) (sb:Bytes st) (sl:st.length≤1000000):GvW W ⟨a,b,d,some ⟨k5+1,0,none⟩,n,keysAt k5 ks,A,c,st⟩:=by
 obtain⟨r1,r2⟩:=k.w hn hl;obtain⟨A',c',e,hc⟩:=own_form o
 injection e with e1 e2 e3
 refine⟨r1,λy hy=>(r2 y hy).1,λy hy=>hb _ (r2 y hy).2,λy hy=>by rw[hl _ (r2 y hy).2];decide,?_,Sr.of_own o,sb,sl,by show st.length≤c;omega⟩
 show(keysAt k5 ks).length≤_
 unfold keysAt;rw[List.length_map,List.length_range];omega
set_option maxHeartbeats 2000000 in
theorem gGet_t (xs:List Nat) (p:Option Addr) (m c:Nat) (w:World) (hx:xs.length=m) (hp:Sr w p xs) (hb:Bytes xs) (hl:m≤1000000) (hk:KI w):
  Calls Tryz.prog 16 #[.slice p m c] w λe W'=>Below w.heap.size w W'∧((okE xs=false∧e= .returned (.tuple #[.agg (gv zGv).toArray,.int .i64 2]))∨(okE xs=true∧∃ y:Gv,y.ge=gotE xs∧e= .returned (.tuple #[.agg (gv y).toArray,.int .i64 0])∧GvW W' y)):=by
 obtain⟨⟨v1,y1,d1⟩,E1⟩:∃ r,rNum xs false 1=r:=⟨_,rfl⟩;obtain⟨⟨v2,y2,d2⟩,E2⟩:∃ r,rNum y1 d1 1=r:=⟨_,rfl⟩;obtain⟨⟨v3,y3,d3⟩,E3⟩:∃ r,rNum y2 d2 1=r:=⟨_,rfl⟩;obtain⟨⟨ks,y4,d4⟩,E4⟩:∃ r,kRd y3 d3 (3 * v1+1)=r:=⟨_,rfl⟩;obtain⟨⟨st,y5,d5⟩,E5⟩:∃ r,rTxt y4 d4 y4.length=r:=⟨_,rfl⟩;have F1:g1 xs=(v1,y1,d1):=E1;have F2:g2 xs=(v2,y2,d2):=by unfold g2;rw[F1];exact E2
 have F3:g3 xs=(v3,y3,d3):=by unfold g3;rw[F2];exact E3
 have F4:g4 xs=(ks,y4,d4):=by unfold g4;rw[F3,F1];exact E4
 have F5:g5 xs=(st,y5,d5):=by unfold g5;rw[F4];exact E5
 have B1:=rNum_bytes xs false 1 hb;rw[E1] at B1;have B2:=rNum_bytes y1 d1 1 B1.1;rw[E2] at B2;have B3:=rNum_bytes y2 d2 1 B2.1;rw[E3] at B3;have B4:=kRd_bytes d3 B3.1 (3 * v1+1);have L4:=kRd_len y3 d3 (3 * v1+1);rw[E4] at B4 L4;have B5:=rTxt_tx y4 d4 y4.length B4.2.1;have B6:st.length≤1000000:=by
  have q1:=B1.2.1;have q2:=B2.2.1;have q3:=B3.2.1;have q4:=B4.2.2;have h:(rTxt y4 d4 y4.length).1.length≤y4.length:=by
   unfold rTxt
   split
   ·rw[List.length_take,List.length_drop];omega
   ·exact Nat.zero_le _
  rw[E5] at h
  dsimp only at q1 q2 q3 q4 h
  omega
 rw[E5] at B5;have q1:y1.length≤m:=by have:=B1.2.1;dsimp only at this;omega
 have q2:y2.length≤m:=by have:=B2.2.1;dsimp only at this;omega
 have q3:y3.length≤m:=by have:=B3.2.1;dsimp only at this;omega
 have q4:y4.length≤m:=by have:=B4.2.2;dsimp only at this;omega
 have Q:=hid (And.intro q3 q4);have v18:v1<256:=by have:=B1.2.2;dsimp only at this;omega
 have v28:v2<256:=by have:=B2.2.2;dsimp only at this;omega
 have v38:v3<256:=by have:=B3.2.2;dsimp only at this;omega
 obtain⟨ok,hok⟩:∃ z,okE xs=z:=⟨_,rfl⟩;obtain⟨ge,hge⟩:∃ z,gotE xs=z:=⟨_,rfl⟩;have GOT:=hid (show ge=⟨(v1:Int),(v2:Int),(v3:Int),ks,st⟩ from by rw[←hge];unfold gotE;rw[F1,F2,F3,F4,F5]);have OKD:=hid (show ok=(fltB (v1:Int) && (decide (endN y5 d5=0) && begQ ge)) from by rw[←hok,←hge];unfold okE;rw[F1,F5]);rw[hok,hge];have H1:=hid E1;have H2:=hid E2;have H3:=hid E3;have H4:=hid E4;have H5:=hid E5;have BY1:=hid B1.1;have BY2:=hid B2.1;have BY3:=hid B3.1;have BY4:=hid B4;have BY5:=hid B5;have BY6:=hid B6;have LK:=hid L4;have HB:=hid hb;have HK:=hid hk;have i1:IntKind.i64.wrap (v1:Int)=(v1:Int):=IntWalk.i64_in _ (by omega);have i2:IntKind.i64.wrap (v2:Int)=(v2:Int):=IntWalk.i64_in _ (by omega);have i3:IntKind.i64.wrap (v3:Int)=(v3:Int):=IntWalk.i64_in _ (by omega);have Z0:=hid ((Below.refl w.heap.size w).alloc (Nat.le_refl _) (.cells (gv zGv).toArray 25));have R0:=hid (Blk.new w 25 (gv zGv));have NW:=hid (rnew_t xs p m c _ hx (hp.below Z0.out) (by omega));have BG:=built_g9 (v1:Int) (v2:Int) (v3:Int);clear hx hp hb hk E1 E2 E3 E4 E5 F1 F2 F3 F4 F5 B1 B2 B3 B4 B5 B6 L4 q1 q2 q3 q4 hok hge
 go_enter Tryz.func16,Tryz.ntmps16
 go_wp2_with fail
 refine NW.out.mono ?_
 rintro e w1 ⟨g,rfl,hg,x1,b1⟩
 have hg1:w.heap.size<g:=by have:=hg;simp at this;omega
 have P1:=hid (show GH9 w1.heap.size w w1 g xs false from⟨x1.there,R0.out.below b1 R0.out.lt,hg1,x1.lt,Nat.le_refl _,Z0.out.trans (b1.mono Z0.out.size)⟩);obtain⟨B,hB⟩:∃ b,w1.heap.size=b:=⟨_,rfl⟩;rw[hB] at P1;clear NW hg hg1 x1 b1 Z0 R0 hB;go_wp2_with fail
 refine(rnum_F _ g xs false 1 w1 P1.out.rd HB.out (by decide) (by decide)).mono ?_;rw[H1.out]
 rintro e w2 ⟨rfl,x_,k_⟩
 have P2:=hid (P1.out.read k_ x_);clear x_ k_ P1;go_wp2_with fail
 refine(rnum_F _ g y1 d1 1 w2 P2.out.rd BY1.out (by decide) (by decide)).mono ?_;rw[H2.out]
 rintro e w3 ⟨rfl,x_,k_⟩
 have P3:=hid (P2.out.read k_ x_);clear x_ k_ P2;go_wp2_with fail
 refine(rnum_F _ g y2 d2 1 w3 P3.out.rd BY2.out (by decide) (by decide)).mono ?_;rw[H3.out]
 rintro e w4 ⟨rfl,x_,k_⟩
 have P4:=hid (P3.out.read k_ x_);clear x_ k_ P3;have A0:=hid (P4.out.alloc ⟨(v1:Int),(v2:Int),(v3:Int),none,0,[],none,0,[]⟩)
 go_upto_region 3 with(fail)
 refine world_at (λZ=>GG9 B w Z g w4.heap.size y3 d3 ⟨(v1:Int),(v2:Int),(v3:Int),none,0,[],none,0,[]⟩) A0.out ?_
 rintro V av
 obtain⟨gx,hgx⟩:∃ x,w4.heap.size=x:=⟨_,rfl⟩;rw[hgx] at av ⊢;have A1:=hid av;clear av A0 P4 hgx BG i1 i2 i3;obtain⟨c0,_,_,_,_⟩:=gv_cells A1.out.bx;have FT:=hid (faults_t (v1:Int) V);obtain⟨fb,hfb⟩:∃ b,fltB (v1:Int)=b:=⟨_,rfl⟩;rw[hfb] at FT OKD;have HFB:=hid hfb;clear hfb;go_wp2_with fail
 refine FT.out.mono ?_
 rintro e w5 ⟨rfl,rfl⟩
 clear FT
 cases fb with
 |false=>
  clear c0;have RES:=hid A1.out.res;have RZ:=hid (A1.out.res.setRow (gv zGv));have BF:=hid (below_setRow A1.out.bel (Nat.le_refl _) (gv zGv).toArray);have FZ:=hid (gv_size zGv);have FZO:=hid (gv_one zGv);have BZ:=built_gz
  go_wp2_with ((with_reducible refine at_op (.store 25 (.tmp 2) (.tmp 22)) rfl ?_);go_must (refine store_blk 25 (.tmp 2) (.tmp 22) w.heap.size 25 _ (gv zGv) rfl rfl RES.out rfl FZ.out FZO.out rfl rfl ?_))
  exact ret_blkS (p:=2) (u:=3) (ty:=25) rfl rfl w.heap.size 25 _ _ rfl RZ.out Tryz.underlying25 rfl FZ.out _ rfl ⟨BF.out,.inl ⟨OKD.out,rfl⟩⟩
 |true=>
  have v2':v1≤2:=by have:=HFB.out;simp[fltB] at this;omega
  have KF:=hid (keysFor_t (v1:Int) (by omega) (by omega) V);rw[show(3 * (v1:Int)+1)=((3 * v1+1:Nat):Int) by omega] at KF;have RK:=hid (readKeys_t _ y3 d3 g (3 * v1+1) V A1.out.rd (λk hk=>by have h1:=A1.out.ob;have h2:=A1.out.bx.lt;omega) BY3.out (by have:=Q.out.1;omega) (by omega));rw[H4.out] at RK
  dsimp only at RK
  obtain⟨n,hn⟩:∃ n,3 * v1+1=n:=⟨_,rfl⟩;have n7:n≤7:=by omega
  rw[hn] at KF RK;have LK2:=hid (show ks.length=n∧∀ x∈ks,x.length=56 from⟨by rw[←hn];exact LK.out.1,LK.out.2⟩);clear hn LK;go_wp2_with fail
  refine KF.out.mono ?_
  rintro e w5 ⟨rfl,rfl⟩
  go_wp2_with fail
  refine RK.out.mono ?_
  rintro e w6 ⟨rfl,kr⟩
  obtain⟨k5,hk5⟩:∃ k,V.heap.size=k:=⟨_,rfl⟩;have hgk:gx<k5:=by rw[←hk5];exact A1.out.bx.lt
  have A2:=hid (A1.out.read kr.kp kr.rd);have K2:=hid (show GK9 w6 k5 n ks from by rw[←hk5];exact⟨kr.room,kr.keys⟩);have HLO:=hid (show w.heap.size<k5 from by rw[←hk5];have:=A1.out.og;have:=A1.out.gB;have:=A1.out.ob;have:=A1.out.bx.lt;omega);rw[hk5];clear kr hk5 KF RK c0 A1;have fz:=A2.out.bx.frozen 3;have ct:w6.cell? ⟨gx,3,none⟩=some (.slice none 0 0):=(gv_cells A2.out.bx).2.2.2.1;have hkl:(keysAt k5 ks).length=n:=by unfold keysAt;rw[List.length_map,List.length_range];exact LK2.out.1
  have kz:Kept (λk=>k=gx) w6 (w6.setCell ⟨gx,3,none⟩ (.slice (some ⟨k5+1,0,none⟩) n n)):=Kept.setCell (F:=λk=>k=gx) (Kept.refl _ _) (p:=⟨gx,3,none⟩) (.inl rfl) _;have A3:=hid (A2.out.put (x':=⟨(v1:Int),(v2:Int),(v3:Int),some ⟨k5+1,0,none⟩,n,keysAt k5 ks,none,0,[]⟩) kz (by
   have h:=A2.out.bx.store 3 (.slice (some ⟨k5+1,0,none⟩) n n);unfold gv at h ⊢;rw[hkl];exact h))
  have K3:=hid (K2.out.kept kz (by omega) (by omega));have HKL:=hid hkl;have HGK:=hid hgk;clear A2 K2 kz hkl hgk
  go_upto_region 6 with(fail)
  clear fz ct;obtain⟨V3,hV3⟩:∃ V,w6.setCell ⟨gx,3,none⟩ (.slice (some ⟨k5+1,0,none⟩) n n)=V:=⟨_,rfl⟩;rw[hV3] at A3 K3 ⊢;clear hV3;go_wp2_with fail
  refine(left_t g y4 d4 V3 A3.out.rd.rd).mono ?_
  rintro e w7 ⟨rfl,rfl⟩
  go_wp2_with fail
  refine(rtxt_F _ g y4 d4 y4.length V3 A3.out.rd BY4.out.2.1 (by have:=Q.out.2;omega) (by have:=Q.out.2;omega)).mono ?_;rw[H5.out]
  rintro e w8 ⟨u,rfl,o8,x8,k8⟩
  dsimp only at o8 x8
  obtain⟨A,cA,rfl,_⟩:=own_form o8;have A4:=hid (A3.out.read k8 x8);have K4:=hid (K3.out.kept k8 (by have h1:=A3.out.gB;have h2:=A3.out.ob;have h3:=HGK.out;omega) (by have h1:=A3.out.gB;have h2:=A3.out.ob;have h3:=HGK.out;omega));have O4:=hid (own_base (base':=gx+1) o8 (λk hk=>by have h1:=(o8.lt k hk).1;have h2:=A3.out.bx.lt;omega));clear o8 x8 k8 A3 K3;have fz:=A4.out.bx.frozen 4;have ct:w8.cell? ⟨gx,4,none⟩=some (.slice none 0 0):=(gv_cells A4.out.bx).2.2.2.2;have kz:Kept (λk=>k=gx) w8 (w8.setCell ⟨gx,4,none⟩ (.slice A st.length cA)):=Kept.setCell (F:=λk=>k=gx) (Kept.refl _ _) (p:=⟨gx,4,none⟩) (.inl rfl) _;have A5:=hid (A4.out.put (x':=⟨(v1:Int),(v2:Int),(v3:Int),some ⟨k5+1,0,none⟩,n,keysAt k5 ks,A,cA,st⟩) kz (A4.out.bx.store 4 (.slice A st.length cA)));have K5:=hid (K4.out.kept kz (by have h3:=HGK.out;omega) (by have h3:=HGK.out;omega));have O5:=hid (own_kept O4.out kz (λk hk e=>by have:=(O4.out.lt k hk).1;omega));clear A4 K4 O4 kz
  go_upto_region 7 with(fail)
  clear fz ct;obtain⟨V4,hV4⟩:∃ V,w8.setCell ⟨gx,4,none⟩ (.slice A st.length cA)=V:=⟨_,rfl⟩;rw[hV4] at A5 K5 O5 ⊢;clear hV4;have GYW:=hid (λ(W:World) (k:GK9 W k5 n ks) (o:W.ownsRow (gx+1) 5 1 (.slice A st.length cA) st.length (u8s st))=>show GvW W ⟨(v1:Int),(v2:Int),(v3:Int),some ⟨k5+1,0,none⟩,n,keysAt k5 ks,A,cA,st⟩ from gy_w k LK2.out.1 n7 LK2.out.2 BY4.out.1 o BY5.out BY6.out);obtain⟨y,hy⟩:∃ y:Gv,(⟨(v1:Int),(v2:Int),(v3:Int),some ⟨k5+1,0,none⟩,n,keysAt k5 ks,A,cA,st⟩:Gv)=y:=⟨_,rfl⟩;have HYG:=hid (show y.ge=ge from by rw[←hy,GOT.out];unfold Gv.ge;rw[keysAt_X]);rw[hy] at A5 GYW;clear hy GOT;have ET:=hid (end_t g y5 d5 V4 A5.out.rd.rd);obtain⟨en,hen⟩:∃ z,endN y5 d5=z:=⟨_,rfl⟩;rw[hen] at ET OKD;clear hen
  by_cases h0:en=0
  ·subst h0;have MT:=hid (gMay_t y V4 (GYW.out V4 K5.out O5.out) (HK.out.kept A5.out.bel));rw[begB_Q,HYG.out] at MT;obtain⟨mb,hmb⟩:∃ b,begQ ge=b:=⟨_,rfl⟩;rw[hmb] at MT OKD;have FY:=hid (gv_size y);have FYO:=hid (gv_one y);clear hmb;go_wp2_with fail
   refine ET.out.mono ?_
   rintro e w9 ⟨rfl,rfl⟩
   have GBX:=hid A5.out.bx
   go_wp2_with ((with_reducible refine load_blk_gdO 38 25 (.tmp 5) gx 25 (gv y) _ ?_ ?_ rfl ?_ Tryz.underlying25 ?_ ?_ ?_ ?_);exact rfl;kernel_rfl;exact GBX.out;exact rfl;exact FY.out;exact rfl)
   refine MT.out.mono ?_
   rintro e w10 ⟨rfl,b10⟩
   have A6:=hid (A5.out.below b10);have K6:=hid (K5.out.below b10);have O6:=hid (own_below O5.out b10);clear b10 MT ET GBX A5 K5 O5
   cases mb with
   |false=>
    have RES:=hid A6.out.res;have RZ:=hid (A6.out.res.setRow (gv zGv));have BF:=hid (below_setRow A6.out.bel (Nat.le_refl _) (gv zGv).toArray);have FZ:=hid (gv_size zGv);have FZO:=hid (gv_one zGv);have BZ:=built_gz
    go_wp2_with ((with_reducible refine at_op (.store 25 (.tmp 2) (.tmp 42)) rfl ?_);go_must (refine store_blk 25 (.tmp 2) (.tmp 42) w.heap.size 25 _ (gv zGv) rfl rfl RES.out rfl FZ.out FZO.out rfl rfl ?_))
    exact ret_blkS (p:=2) (u:=3) (ty:=25) rfl rfl w.heap.size 25 _ _ rfl RZ.out Tryz.underlying25 rfl FZ.out _ rfl ⟨BF.out,.inl ⟨OKD.out,rfl⟩⟩
   |true=>
    have OK:=hid (show ok=true from OKD.out);have RES:=hid A6.out.res;have GBX:=hid A6.out.bx;have RZ:=hid (A6.out.res.setRow (gv y));have BF:=hid (below_setRow A6.out.bel (Nat.le_refl _) (gv y).toArray);have kz:Kept (λk=>k=w.heap.size) w10 (w10.setRow w.heap.size (gv y).toArray):=Kept.setRowK (F:=λk=>k=w.heap.size) (Kept.refl _ _) (.inl rfl) _;have KW:=hid (GYW.out _ (K6.out.kept kz (by have:=HLO.out;omega) (by have:=HLO.out;omega)) (own_kept O6.out kz (λk hk e=>by have h1:=(O6.out.lt k hk).1;have h2:=A6.out.og;have h3:=A6.out.gB;have h4:=A6.out.ob;omega)));clear kz
    go_wp2_with (first
     |((with_reducible refine load_blk 25 (.tmp 5) gx 25 (gv y) _ rfl rfl ?_ Tryz.underlying25 ?_ ?_ ?_ ?_);exact GBX.out;exact rfl;exact FY.out;exact rfl)
     |((with_reducible refine at_op (.store 25 (.tmp 2) (.tmp 43)) rfl ?_);go_must (refine store_blk 25 (.tmp 2) (.tmp 43) w.heap.size 25 _ (gv y) rfl rfl RES.out rfl FY.out FYO.out rfl rfl ?_)))
    exact ret_blkS (p:=2) (u:=3) (ty:=25) rfl rfl w.heap.size 25 _ _ rfl RZ.out Tryz.underlying25 rfl FY.out _ rfl ⟨BF.out,.inr ⟨OK.out,y,HYG.out,rfl,KW.out⟩⟩
  ·have e1:((en:Int) != 0)=true:=by rw[bne_iff_ne];omega
   have OK:=hid (show ok=false from by have:=OKD.out;rw[decide_eq_false h0] at this;exact this);go_wp2_with fail
   refine ET.out.mono ?_
   rintro e w9 ⟨rfl,rfl⟩
   clear ET K5 O5;have RES:=hid A5.out.res;have RZ:=hid (A5.out.res.setRow (gv zGv));have BF:=hid (below_setRow A5.out.bel (Nat.le_refl _) (gv zGv).toArray);have FZ:=hid (gv_size zGv);have FZO:=hid (gv_one zGv);have BZ:=built_gz
   go_wp2_with ((with_reducible refine at_op (.store 25 (.tmp 2) (.tmp 42)) rfl ?_);go_must (refine store_blk 25 (.tmp 2) (.tmp 42) w.heap.size 25 _ (gv zGv) rfl rfl RES.out rfl FZ.out FZO.out rfl rfl ?_))
   exact ret_blkS (p:=2) (u:=3) (ty:=25) rfl rfl w.heap.size 25 _ _ rfl RZ.out Tryz.underlying25 rfl FZ.out _ rfl ⟨BF.out,.inl ⟨OK.out,rfl⟩⟩
end Go.Proofs.YtlipjglehongeaaGreatDoor
