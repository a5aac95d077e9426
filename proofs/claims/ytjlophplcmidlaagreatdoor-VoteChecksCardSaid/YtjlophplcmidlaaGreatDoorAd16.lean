/-
  PACKAGE state
  PACKAGE state
  PACKAGE space
  PACKAGE space
  PACKAGE space
  PACKAGE space
  PACKAGE space
  PACKAGE space
  PACKAGE space
-/
import Derived.Test.YtjlophplcmidlaaGreatDoorAd15
import Derived.Laws.ResultCell
import Derived.BigQuiet
import Derived.Test.YtjlophplcmidlaaGreatDoorAd12
import Derived.Test.YtjlophplcmidlaaGreatDoorTk
open Go.Lib (hid)
set_option maxRecDepth 100000
namespace Go.Proofs.YtjlophplcmidlaaGreatDoor
open Go Go.RowKit Sh
section
section
section
section
section
section
section
theorem But.keptOneS {B g:Nat} {w w':World} (h:But B g w w') (hB:B=w.heap.size):Kept (λk=>k=g) w w':=⟨h.os,h.tape,h.output,h.size,λb h1 h2=>h.block b (by omega) h2⟩
structure CB (W:World) (gb gs g:Nat):Prop where
 c:W.cell? ⟨gb,0,none⟩=some (.pointer (some ⟨gs,0,none⟩))
 lt:gb<W.heap.size
 ns:gb≠gs
 ng:gb≠g
theorem CB.kept {W W':World} {gb gs g:Nat} (h:CB W gb gs g) (hk:Kept (λk=>k=g∨k=gs) W W'):CB W' gb gs g:=
 ⟨(hk.cell (p:=⟨gb,0,none⟩) h.lt (λe=>e.elim h.ng h.ns)).trans h.c,Nat.lt_of_lt_of_le h.lt hk.size,h.ns,h.ng⟩
theorem CB.below {W W':World} {gb gs g:Nat} (h:CB W gb gs g) (hb:Below W.heap.size W W'):CB W' gb gs g:=h.kept (Kept.of_below hb)
theorem gFl_len (s:Src):(gFl s).2.xs.length≤s.xs.length:=by
 unfold gFl sTxt rTxt
 dsimp only
 split
 ·simp only[List.length_drop];omega
 ·simp
theorem gFlag_len (s:Src):(gFlag s).2.xs.length≤s.xs.length:=gNum_len s 1
theorem gIt_len (s:Src):(gIt s).2.xs.length≤s.xs.length:=Nat.le_trans (gFl_len _) (Nat.le_trans (gNum_len _ 8) (gNum_len _ 1))
theorem gWt_len (s:Src):(gWt s).2.xs.length≤s.xs.length:=Nat.le_trans (gFl_len _) (Nat.le_trans (gFlag_len _) (Nat.le_trans (gNum_len _ 4) (gNum_len _ 1)))
theorem gLa_len (c:Int) (s:Src):(gLa c s).2.xs.length≤s.xs.length:=Nat.le_trans (gFl_len _) (Nat.le_trans (gFlag_len _) (Nat.le_trans (gNum_len _ 1) (gNum_len _ 4)))
theorem gNum_lt {s:Src} {n:Nat} (hb:Bytes s.xs):(gNum s n).1 <256 ^ n:=(rNum_bytes s.xs s.bad n hb).2.2
theorem i64N_small {v:Nat} (h:v<9223372036854775808):i64N v=(v:Int):=by unfold i64N;exact IntWalk.i64_in _ (by omega)
structure CS (B:Nat) (w0 W:World) (gb gs g:Nat) (s:Src) (t:TypeId) (cs:List Value):Prop where
 sr:SR B W gs g s
 cb:CB W gb gs g
 res:Blk W w0.heap.size t cs
 kp:Kept (λk=>k=g∨k=gs) w0 W
 gl:g<w0.heap.size
 sl:gs<w0.heap.size
theorem CS.new {w0 U:World} {B gb gs g:Nat} {s:Src} {t:TypeId} {cs:List Value} (h:SR B w0 gs g s) (hc:CB w0 gb gs g) (hb:Below w0.heap.size w0 U) (hr:Blk U w0.heap.size t cs):CS B w0 U gb gs g s t cs:=
 ⟨h.below hb,hc.below hb,hr,Kept.of_below hb,h.rd.rd.lt,h.bx.lt⟩
theorem CS.step {w0 W W':World} {B gb gs g:Nat} {s s':Src} {t:TypeId} {cs:List Value} (h:CS B w0 W gb gs g s t cs) (hs:SR B W' gs g s') (hk:Kept (λk=>k=g∨k=gs) W W'):CS B w0 W' gb gs g s' t cs:=
 ⟨hs,h.cb.kept hk,h.res.kept hk (λe=>by have:=h.gl;have:=h.sl;omega),h.kp.trans hk,h.gl,h.sl⟩
theorem CS.fin {w0 W W':World} {B gb gs g:Nat} {s:Src} {t:TypeId} {cs:List Value} (h:CS B w0 W gb gs g s t cs) (hk:Kept (λk=>k=w0.heap.size) W W'):SR B W' gs g s∧Kept (λk=>k=g∨k=gs) w0 W':=by
 have h1:=h.gl;have h2:=h.sl;refine⟨⟨h.sr.bx.kept hk (by omega),h.sr.rd.stays hk (by omega) (λi hi e=>by have:=h.sr.lb;omega),h.sr.ne,h.sr.by_,h.sr.lb⟩,⟨hk.os.trans h.kp.os,hk.tape.trans h.kp.tape,hk.output.trans h.kp.output,Nat.le_trans h.kp.size hk.size,λk hlt hf=>(hk.block k (Nat.lt_of_lt_of_le hlt h.kp.size) (by omega)).trans (h.kp.block k hlt hf)⟩⟩
set_option maxHeartbeats 1000000 in
theorem itc_t (B gb gs g:Nat) (s:Src) (W:World) (x:SR B W gs g s) (hc:CB W gb gs g) (hl:s.xs.length≤1000000):
  Calls Tryz.prog 99 #[.pointer (some ⟨gb,0,none⟩)] W λe W'=>∃ y:Itv,e= .returned (.agg (iv y).toArray)∧y.i=(gIt s).1 ∧TR W' y.p y.i.t∧SR B W' gs g (gIt s).2 ∧Kept (λk=>k=g∨k=gs) W W'∧NF W' W.heap.size y.p:=by
 obtain⟨U,hU⟩:∃ U,(W.alloc (.cells ([.int .i64 0,.int .i64 0,.slice none 0 0]).toArray 133)).drew=U:=⟨_,rfl⟩;have BU:=hid (show Below W.heap.size W U from by rw[←hU];exact((Below.refl _ _).alloc (Nat.le_refl _) _).drew);have C0:=hid (CS.new (t:=133) (cs:=[.int .i64 0,.int .i64 0,.slice none 0 0]) x hc BU.out (by rw[←hU];exact(Blk.new W 133 ([.int .i64 0,.int .i64 0,.slice none 0 0])).below (Below.refl _ _).drew (Blk.new W 133 ([.int .i64 0,.int .i64 0,.slice none 0 0])).lt));have HB:=hid x.by_;have L1:=gNum_len s 1;obtain⟨⟨v1,s1⟩,E1⟩:∃ r,gNum s 1=r:=⟨_,rfl⟩;obtain⟨⟨v2,s2⟩,E2⟩:∃ r,gNum s1 8=r:=⟨_,rfl⟩;obtain⟨⟨t,s3⟩,E3⟩:∃ r,gFl s2=r:=⟨_,rfl⟩;have L2:=gNum_len s1 8;have HV1:=gNum_lt (n:=1) x.by_;have EG:=hid (show gIt s=(⟨(v1:Int),i64N v2,t⟩,s3) from by unfold gIt;simp only[E1,E2,E3]);rw[E1] at L1 HV1;rw[E2] at L2;have H1:=hid E1;have H2:=hid E2;have H3:=hid E3;have e1:i64N v1=(v1:Int):=i64N_small (by have:v1<256:=HV1;omega);have I1:=hid e1;obtain⟨un,hun⟩:∃ z,i64N v2=z:=⟨_,rfl⟩;have HUN:=hid hun;have M1:=hid (show s1.xs.length≤1000000 from by dsimp only at L1;omega);have M2:=hid (show s2.xs.length≤1000000 from by dsimp only at L1 L2;omega);have hclt:=hid hc.lt;clear L1 L2 HV1 E1 E2 E3 e1 hun x hc
 go_enter Tryz.func99,Tryz.ntmps99
 go_upto_region 1 with(fail)
 have s0:U.cell? ⟨gb,0,none⟩=some (.pointer (some ⟨gs,0,none⟩)):=C0.out.cb.c;refine wp_region_held (S:=λY=>Y.cell? ⟨gb,0,none⟩=some (.pointer (some ⟨gs,0,none⟩))) (by kernel_rfl) ?_;change wpAnyH _ _ _ _ _ _ _ _ ((W.alloc (.cells ([Value.int .i64 0,.int .i64 0,.slice none 0 0]).toArray 133)).drew);rw[hU];clear hU;refine tk9 0 ?_ ?_ s0 ?_;rotate_left 1
 ·(intro w hS;have hs:=hS;clear hS;go_simp;try (with_reducible rfl))
 refine tk9 2 ?_ ?_ s0 ?_;rotate_left 1
 ·(intro w hS;have hs:=hS;clear hS;go_simp;try (with_reducible rfl))
 refine tk9 4 ?_ ?_ s0 ?_;rotate_left 1
 ·(intro w hS;have hs:=hS;clear hS;go_simp;try (with_reducible rfl))
 refine rdw9 1 λK hK=>?_
 go_simp;refine(snum_t B gs g 1 s _ C0.out.sr (by decide) (by decide)).mono ?_;rw[H1.out]
 rintro e w2 ⟨rfl,x2,k2⟩
 have C2:=hid (C0.out.step x2 (k2.mono λk e=> .inl e));refine hK.out _ _ C2.out.cb.c (λ_=>?_);clear hK K x2 k2 C0;rw[I1.out];refine rdw9 3 λK hK=>?_
 go_simp;refine(snum_t B gs g 8 s1 _ C2.out.sr (by decide) (by decide)).mono ?_;rw[H2.out]
 rintro e w3 ⟨rfl,x2,k2⟩
 have C3:=hid (C2.out.step x2 (k2.mono λk e=> .inl e));refine hK.out _ _ C3.out.cb.c (λ_=>?_);clear hK K x2 k2 C2;rw[HUN.out];refine rdw9 5 λK hK=>?_
 go_simp;refine(sflds_t B gs g s2 _ C3.out.sr M2.out).mono ?_;rw[H3.out]
 rintro e w4 ⟨⟨A,c,rfl,t4,n4⟩,x2,k2⟩
 have C4:=hid (C3.out.step x2 k2);have T4:=hid t4;have N4:=hid (show NF w4 (W.heap.size+1) A from n4.low (by have h2:=C3.out.res.lt;omega));refine hK.out _ _ C4.out.cb.c (λ_=>?_);clear hK K x2 k2 C3 t4 n4;refine tka9 6 C4.out.cb.c ?_;obtain⟨y,hy⟩:∃ y:Itv,(⟨⟨(v1:Int),un,t⟩,A,c⟩:Itv)=y:=⟨_,rfl⟩;have FY:=hid (iv_size y);have FO:=hid (iv_oneA y);have HIV:=hid (show iv y=[.int .i64 (v1:Int),.int .i64 un,.slice A t.length c] from by rw[←hy];rfl);have HY:=hid hy;clear hy;refine rdw9 7 λK hK=>?_
 refine wstore_part 133 (.tmp 1) (.tmp 8) W.heap.size 0 133 [] [.int .i64 0,.int .i64 0,.slice none 0 0] [] (iv y) rfl (by rw[List.nil_append,List.append_nil];exact C4.out.res) rfl rfl FY.out FO.out (by go_simp) (by go_simp;rw[HIV.out]) ?_;intro wz a1 a2 a3;have RZ:=hid (show Blk wz W.heap.size 133 (iv y) by have:=a1.out;rwa [List.nil_append,List.append_nil] at this);have KZ:=a2.out.keptOneS rfl;have CF:=hid (C4.out.fin KZ);have TZ:=hid (show TR wz y.p y.i.t from by rw[←HY.out];exact T4.out.keptS KZ (λa ha e=>by have:=N4.out.ge a ha;omega));have NZ:=hid (show NF wz W.heap.size y.p from by rw[←HY.out];exact(N4.out.kept KZ (λa ha e=>by have:=N4.out.ge a ha;omega)).low (Nat.le_succ _));have cz:wz.cell? ⟨gb,0,none⟩=some (.pointer (some ⟨gs,0,none⟩)):=(KZ.cell (p:=⟨gb,0,none⟩) C4.out.cb.lt (by have h1:=hclt.out;show gb≠W.heap.size;omega)).trans C4.out.cb.c;refine hK.out _ _ cz (λ_=>?_);clear hK K a1 a2 a3 KZ cz;refine wpAnyH_done (by kernel_rfl) ?_ _;go_simp;go_wp2_with fail
 exact ret_blk (p:=1) (ty:=133) rfl rfl W.heap.size 133 _ _ rfl RZ.out Tryz.underlying133 rfl (iv_size _) ⟨y,rfl,by rw[EG.out,←HY.out,←HUN.out],TZ.out,by rw[EG.out];exact CF.out.1,CF.out.2,NZ.out⟩
set_option maxHeartbeats 1000000 in
theorem wtc_t (B gb gs g:Nat) (s:Src) (W:World) (x:SR B W gs g s) (hc:CB W gb gs g) (hl:s.xs.length≤1000000):
  Calls Tryz.prog 102 #[.pointer (some ⟨gb,0,none⟩)] W λe W'=>∃ y:Wtv,e= .returned (.agg (wv y).toArray)∧y.x=(gWt s).1 ∧TR W' y.p y.x.p∧SR B W' gs g (gWt s).2 ∧Kept (λk=>k=g∨k=gs) W W'∧NF W' W.heap.size y.p:=by
 obtain⟨U,hU⟩:∃ U,(W.alloc (.cells ([.int .i64 0,.int .i64 0,.bool false,.slice none 0 0]).toArray 136)).drew=U:=⟨_,rfl⟩;have BU:=hid (show Below W.heap.size W U from by rw[←hU];exact((Below.refl _ _).alloc (Nat.le_refl _) _).drew);have C0:=hid (CS.new (t:=136) (cs:=[.int .i64 0,.int .i64 0,.bool false,.slice none 0 0]) x hc BU.out (by rw[←hU];exact(Blk.new W 136 ([.int .i64 0,.int .i64 0,.bool false,.slice none 0 0])).below (Below.refl _ _).drew (Blk.new W 136 ([.int .i64 0,.int .i64 0,.bool false,.slice none 0 0])).lt));have HB:=hid x.by_;have L1:=gNum_len s 1;obtain⟨⟨v1,s1⟩,E1⟩:∃ r,gNum s 1=r:=⟨_,rfl⟩;obtain⟨⟨v2,s2⟩,E2⟩:∃ r,gNum s1 4=r:=⟨_,rfl⟩;obtain⟨⟨fg,s3⟩,E3⟩:∃ r,gFlag s2=r:=⟨_,rfl⟩;obtain⟨⟨t,s4⟩,E4⟩:∃ r,gFl s3=r:=⟨_,rfl⟩;have L2:=gNum_len s1 4;have L3:=gFlag_len s2;have HB1:Bytes s1.xs:=by have:=gNum_bytes 1 x.by_;rwa [E1] at this
 have HV2:=gNum_lt (n:=4) HB1;have HV1:=gNum_lt (n:=1) x.by_;have EG:=hid (show gWt s=(⟨(v1:Int),(v2:Int),fg,t⟩,s4) from by unfold gWt;simp only[E1,E2,E3,E4]);rw[E1] at L1 HV1;rw[E2] at L2 HV2;rw[E3] at L3;have H1:=hid E1;have H2:=hid E2;have H3:=hid E3;have H4:=hid E4;have e1:i64N v1=(v1:Int):=i64N_small (by have:v1<256:=HV1;omega);have e2:i64N v2=(v2:Int):=i64N_small (by have:v2<4294967296:=HV2;omega);have I1:=hid e1;have I2:=hid e2;have M3:=hid (show s3.xs.length≤1000000 from by dsimp only at L1 L2 L3;omega);have hclt:=hid hc.lt;clear L1 L2 L3 HV1 HV2 HB1 E1 E2 E3 E4 e1 e2 x hc
 go_enter Tryz.func102,Tryz.ntmps102
 go_upto_region 1 with(fail)
 have s0:U.cell? ⟨gb,0,none⟩=some (.pointer (some ⟨gs,0,none⟩)):=C0.out.cb.c;refine wp_region_held (S:=λY=>Y.cell? ⟨gb,0,none⟩=some (.pointer (some ⟨gs,0,none⟩))) (by kernel_rfl) ?_;change wpAnyH _ _ _ _ _ _ _ _ ((W.alloc (.cells ([Value.int .i64 0,.int .i64 0,.bool false,.slice none 0 0]).toArray 136)).drew);rw[hU];clear hU;refine tk9 0 ?_ ?_ s0 ?_;rotate_left 1
 ·(intro w hS;have hs:=hS;clear hS;go_simp;try (with_reducible rfl))
 refine tk9 2 ?_ ?_ s0 ?_;rotate_left 1
 ·(intro w hS;have hs:=hS;clear hS;go_simp;try (with_reducible rfl))
 refine tk9 4 ?_ ?_ s0 ?_;rotate_left 1
 ·(intro w hS;have hs:=hS;clear hS;go_simp;try (with_reducible rfl))
 refine tk9 6 ?_ ?_ s0 ?_;rotate_left 1
 ·(intro w hS;have hs:=hS;clear hS;go_simp;try (with_reducible rfl))
 refine rdw9 1 λK hK=>?_
 go_simp;refine(snum_t B gs g 1 s _ C0.out.sr (by decide) (by decide)).mono ?_;rw[H1.out]
 rintro e w2 ⟨rfl,x2,k2⟩
 have C2:=hid (C0.out.step x2 (k2.mono λk e=> .inl e));refine hK.out _ _ C2.out.cb.c (λ_=>?_);clear hK K x2 k2 C0;rw[I1.out];refine rdw9 3 λK hK=>?_
 go_simp;refine(snum_t B gs g 4 s1 _ C2.out.sr (by decide) (by decide)).mono ?_;rw[H2.out]
 rintro e w3 ⟨rfl,x2,k2⟩
 have C3:=hid (C2.out.step x2 (k2.mono λk e=> .inl e));refine hK.out _ _ C3.out.cb.c (λ_=>?_);clear hK K x2 k2 C2;rw[I2.out];refine rdw9 5 λK hK=>?_
 go_simp;refine(sflag_t B gs g s2 _ C3.out.sr).mono ?_;rw[H3.out]
 rintro e w9 ⟨rfl,x2,k2⟩
 have C9:=hid (C3.out.step x2 k2);refine hK.out _ _ C9.out.cb.c (λ_=>?_);clear hK K x2 k2 C3;refine rdw9 7 λK hK=>?_
 go_simp;refine(sflds_t B gs g s3 _ C9.out.sr M3.out).mono ?_;rw[H4.out]
 rintro e w4 ⟨⟨A,c,rfl,t4,n4⟩,x2,k2⟩
 have C4:=hid (C9.out.step x2 k2);have T4:=hid t4;have N4:=hid (show NF w4 (W.heap.size+1) A from n4.low (by have h2:=C9.out.res.lt;omega));refine hK.out _ _ C4.out.cb.c (λ_=>?_);clear hK K x2 k2 C9 t4 n4;refine tka9 8 C4.out.cb.c ?_;obtain⟨y,hy⟩:∃ y:Wtv,(⟨⟨(v1:Int),(v2:Int),fg,t⟩,A,c⟩:Wtv)=y:=⟨_,rfl⟩;have FY:=hid (wv_size y);have FO:=hid (wv_oneA y);have HIV:=hid (show wv y=[.int .i64 (v1:Int),.int .i64 (v2:Int),.bool fg,.slice A t.length c] from by rw[←hy];rfl);have HY:=hid hy;clear hy;refine rdw9 9 λK hK=>?_
 refine wstore_part 136 (.tmp 1) (.tmp 10) W.heap.size 0 136 [] [.int .i64 0,.int .i64 0,.bool false,.slice none 0 0] [] (wv y) rfl (by rw[List.nil_append,List.append_nil];exact C4.out.res) rfl rfl FY.out FO.out (by go_simp) (by go_simp;rw[HIV.out]) ?_;intro wz a1 a2 a3;have RZ:=hid (show Blk wz W.heap.size 136 (wv y) by have:=a1.out;rwa [List.nil_append,List.append_nil] at this);have KZ:=a2.out.keptOneS rfl;have CF:=hid (C4.out.fin KZ);have TZ:=hid (show TR wz y.p y.x.p from by rw[←HY.out];exact T4.out.keptS KZ (λa ha e=>by have:=N4.out.ge a ha;omega));have NZ:=hid (show NF wz W.heap.size y.p from by rw[←HY.out];exact(N4.out.kept KZ (λa ha e=>by have:=N4.out.ge a ha;omega)).low (Nat.le_succ _));have cz:wz.cell? ⟨gb,0,none⟩=some (.pointer (some ⟨gs,0,none⟩)):=(KZ.cell (p:=⟨gb,0,none⟩) C4.out.cb.lt (by have h1:=hclt.out;show gb≠W.heap.size;omega)).trans C4.out.cb.c;refine hK.out _ _ cz (λ_=>?_);clear hK K a1 a2 a3 KZ cz;refine wpAnyH_done (by kernel_rfl) ?_ _;go_simp;go_wp2_with fail
 exact ret_blk (p:=1) (ty:=136) rfl rfl W.heap.size 136 _ _ rfl RZ.out Tryz.underlying136 rfl (wv_size _) ⟨y,rfl,by rw[EG.out,←HY.out],TZ.out,by rw[EG.out];exact CF.out.1,CF.out.2,NZ.out⟩
theorem gRow_lenx {α:Type} {g:Src→α×Src} (hg:∀ s,(g s).2.xs.length≤s.xs.length) (s:Src):∀ j,(gRow g s j).2.xs.length≤s.xs.length
 |0=>Nat.le_refl _
 |j+1=>Nat.le_trans (hg _) (gRow_lenx hg s j)
structure ROI (B:Nat) (w0 W:World) (gb gs g:Nat) (s0:Src) (j:Nat) (L:List Itv) (lv:Value):Prop where
 lo:W.ownsRow w0.heap.size 133 3 lv L.length (L.flatMap iv)
 le:L.map (·.i)=(gRow gIt s0 j).1
 sr:SR B W gs g (gRow gIt s0 j).2
 tr:∀ y∈L,TR W y.p y.i.t
 nw:∀ y∈L,NF W w0.heap.size y.p
 cb:CB W gb gs g
 kp:Kept (λk=>k=g∨k=gs) w0 W
 gl:g<w0.heap.size
 sl:gs<w0.heap.size
 bl:gb<w0.heap.size
structure RPI (B:Nat) (w0 W:World) (gb gs g:Nat) (s0:Src) (j:Nat) (L:List Itv) (lv:Value) (y:Itv):Prop where
 lo:W.ownsRow w0.heap.size 133 3 lv L.length (L.flatMap iv)
 le:(L++[y]).map (·.i)=(gRow gIt s0 (j+1)).1
 sr:SR B W gs g (gRow gIt s0 (j+1)).2
 tr:∀ z∈L++[y],TR W z.p z.i.t
 nw:∀ z∈L++[y],NF W w0.heap.size z.p
 cb:CB W gb gs g
 kp:Kept (λk=>k=g∨k=gs) w0 W
 gl:g<w0.heap.size
 sl:gs<w0.heap.size
 bl:gb<w0.heap.size
section
variable {B : Nat} {w0 W W' : World} {gb gs g : Nat} {s0 : Src} {j : Nat} {L : List Itv} {lv lv' : Value} {y : Itv}
theorem RPI.below (h:RPI B w0 W gb gs g s0 j L lv y) (hb:Below W.heap.size W W'):RPI B w0 W' gb gs g s0 j L lv y:=
 ⟨own_below h.lo hb,h.le,h.sr.below hb,λy hy=>(h.tr y hy).below hb,λy hy=>(h.nw y hy).below hb,h.cb.below hb,h.kp.trans (Kept.of_below hb),h.gl,h.sl,h.bl⟩
theorem ROI.read (h:ROI B w0 W gb gs g s0 j L lv) (e:y.i=(gIt (gRow gIt s0 j).2).1) (t:TR W' y.p y.i.t) (x:SR B W' gs g (gIt (gRow gIt s0 j).2).2) (k:Kept (λk=>k=g∨k=gs) W W') (n:NF W' W.heap.size y.p):RPI B w0 W' gb gs g s0 j L lv y:=by
 have hs:=h.kp.size;have h1:=h.gl;have h2:=h.sl;refine⟨own_kept h.lo k (λi hi e=>by have:=(h.lo.lt i hi).1;omega),?_,x,λz hz=>?_,λz hz=>?_,h.cb.kept k,h.kp.trans k,h1,h2,h.bl⟩
 ·rw[List.map_append,h.le]
  show _=(gRow gIt s0 j).1 ++[_]
  rw[←e];rfl
 ·rcases List.mem_append.1 hz with hz |hz
  ·exact(h.tr z hz).keptS k (λa ha e=>by have:=(h.nw z hz).ge a ha;omega)
  ·rw[List.mem_singleton.1 hz];exact t
 ·rcases List.mem_append.1 hz with hz |hz
  ·exact(h.nw z hz).kept k (λa ha e=>by have:=(h.nw z hz).ge a ha;omega)
  ·rw[List.mem_singleton.1 hz];exact n.low hs
theorem RPI.more (h:RPI B w0 W gb gs g s0 j L lv y) (ho:W'.ownsRow w0.heap.size 133 3 lv' (L.length+1) (L.flatMap iv++[y].flatMap iv)) (hr:W.grownBy W' lv.ownBlock) (hB:B≤w0.heap.size):ROI B w0 W' gb gs g s0 (j+1) (L++[y]) lv':=by
 have h1:=h.gl;have h2:=h.sl;have h4:=h.bl;have k:Kept (λk=>lv.ownBlock=some k) W W':=(Kept.refl _ W).grown hr (λk e=> .inl e);have hge:∀ i,lv.ownBlock=some i→w0.heap.size≤i:=λi hi=>(h.lo.lt i hi).1
 have hap:∀ z∈L++[y],∀ a:Addr,z.p=some a→¬ lv.ownBlock=some a.block:=λz hz a ha e=>by
  obtain⟨cs,hcs⟩:=(h.nw z hz).ty a ha;exact own_apart h.lo hcs (by decide) e
 refine⟨by rw[List.length_append,List.flatMap_append];exact ho,h.le,⟨h.sr.bx.kept k (λe=>by have:=hge _ e;omega),h.sr.rd.stays k (λe=>by have:=hge _ e;omega) (λi hi e=>by have:=hge _ e;omega),h.sr.ne,h.sr.by_,h.sr.lb⟩,λz hz=>(h.tr z hz).keptS k (hap z hz),λz hz=>(h.nw z hz).kept k (hap z hz),⟨(k.cell (p:=⟨gb,0,none⟩) h.cb.lt (λe=>by have h9:w0.heap.size≤gb:=hge _ e;omega)).trans h.cb.c,Nat.lt_of_lt_of_le h.cb.lt k.size,h.cb.ns,h.cb.ng⟩,⟨k.os.trans h.kp.os,k.tape.trans h.kp.tape,k.output.trans h.kp.output,Nat.le_trans h.kp.size k.size,λi hi hf=>(k.block i (Nat.lt_of_lt_of_le hi h.kp.size) (λe=>by have:=hge _ e;omega)).trans (h.kp.block i hi hf)⟩,h1,h2,h4⟩
end
set_option maxHeartbeats 1000000 in
theorem rowsI_t (B gb gs g:Nat) (s:Src) (W:World) (x:SR B W gs g s) (hc:CB W gb gs g) (hl:s.xs.length≤1000000):
  Calls Tryz.prog 98 #[.pointer (some ⟨gs,0,none⟩),.func (.func 99) #[] #[.pointer (some ⟨gb,0,none⟩)]] W λe W'=>∃ (l:List Itv) (A:Option Addr) (c:Nat),e= .returned (.slice A l.length c)∧l.map (·.i)=(gRow gIt (gNum s 1).2 (gNum s 1).1).1 ∧W'.ownsRow W.heap.size 133 3 (.slice A l.length c) l.length (l.flatMap iv)∧(∀ y∈l,TR W' y.p y.i.t)∧(∀ y∈l,NF W' W.heap.size y.p)∧SR B W' gs g (gRow gIt (gNum s 1).2 (gNum s 1).1).2 ∧Kept (λk=>k=g∨k=gs) W W':=by
 have NM:=hid (snum_t B gs g 1 s W x (by decide) (by decide));have HV:=gNum_lt (n:=1) x.by_;have L1:=gNum_len s 1;have X:=hid x;have HC:=hid hc;obtain⟨⟨n,s1⟩,E1⟩:∃ r,gNum s 1=r:=⟨_,rfl⟩;rw[E1] at NM HV L1 ⊢
 dsimp only at NM HV L1 ⊢
 have e1:i64N n=(n:Int):=i64N_small (by have:n<256:=HV;omega);rw[e1] at NM;have n9:n<256:=HV;have hcf:=enters_of Tryz.func99 (by kernel_rfl) rfl;have M1:=hid (show s1.xs.length≤1000000 from by omega);have GL:=hid (λj=>show(gRow gIt s1 j).2.xs.length≤1000000 from by
  have h:=gRow_lenx gIt_len s1 j;have:=M1.out;omega)
 clear E1 e1 HV L1 x hc
 go_enter Tryz.func98,Tryz.ntmps98
 go_wp2_with fail
 refine NM.out.mono ?_
 rintro e w1 ⟨rfl,x1,k1⟩
 have R0:=hid (show ROI B W w1 gb gs g s1 0 [] (.slice none 0 0) from
  ⟨World.ownsRow_nil _ _ _ _,rfl,x1,(λy hy=>by cases hy),(λy hy=>by cases hy),HC.out.kept (k1.mono λk e=> .inl e),k1.mono λk e=> .inl e,X.out.rd.rd.lt,X.out.bx.lt,HC.out.lt⟩)
 have HBW:=hid (show B≤W.heap.size from by have:=X.out.lb;have:=X.out.bx.lt;omega);clear x1 k1 NM HC X
 go_upto_region 3 with(fail)
 go_loopw [5,8] (λlv t wr=>∃ (j:Nat) (L:List Itv),j≤n∧t= .int .i64 (j:Int)∧ROI B W wr gb gs g s1 j L lv) (λ_ t _=>n- (intOf t).toNat)
 case atStart=>exact⟨0,[],by omega,rfl,R0.out⟩
 case round=>
  clear R0;obtain⟨j,L,hj,rfl,ro⟩:=hrel;have R1:=hid ro;clear ro
  by_cases hlt:j<n
  ·have j1:(j:Int)< (n:Int):=by omega
   have HLT:=hid hlt;have HLL:=hid (show L.length=j from by have h:=congrArg List.length R1.out.le;rw[List.length_map,gRow_len] at h;exact h);clear hlt;go_wp2_with fail
   refine(itc_t B gb gs g _ wr R1.out.sr R1.out.cb (GL.out j)).mono ?_
   rintro e w2 ⟨y,rfl,hy,ty,xy,ky,ny⟩
   have R2:=hid (R1.out.read hy ty xy ky ny);clear hy ty xy ky ny R1;have BA:=hid ((Below.refl w2.heap.size w2).alloc (Nat.le_refl _) (.cells (iv y).toArray 133));have R3:=hid (R2.out.below BA.out);have Q1:=hid (row_one iv 3 y w2 133);have HB:=hid (show W.heap.size≤(w2.alloc (.cells (iv y).toArray 133)).heap.size from R3.out.kp.size);have LL:=hid (show L.length+1≤1000000 from by have:=HLL.out;have:=HLT.out;omega)
   go_wp2_with (first
    |((with_reducible refine at_op (.buildSlice 73 1 #[(0,.tmp 12)]) rfl ?_);go_must (refine build1 73 133 (.tmp 12) rfl rfl (iv y) rfl (build_iv y _) ?_))
    |((with_reducible refine at_op (.call { callee:= .builtin .append,args:= #[.tmp 10,.tmp 13],argTypes:= #[73,73] }) rfl ?_);go_must (refine append_rows (.tmp 10) (.tmp 13) 73 rfl rfl 133 Tryz.underlying73 infoI rfl (by decide) (by decide) iv_len iv_one W.heap.size u5 L.length (L.flatMap iv) rfl R3.out.lo (some ⟨w2.heap.size,0,none⟩) 1 1 rfl [y] rfl Q1.out LL.out HB.out ?_);intro v1 w5 h2 h3 h5 h6))
   have R4:=hid (R3.out.more h2.out h3.out HBW.out);clear h2 h3 h5 h6 R2 R3 Q1 BA
   go_roundw
   case rel=>exact⟨j+1,L++[y],HLT.out,by go_num,R4.out⟩
   case measure=>have:=HLT.out;simp[intOf];omega
  ·obtain rfl:j=n:=by omega
   clear hlt;obtain⟨lq,lc,hv,_⟩:=own_form R1.out.lo;subst hv;go_wp2_with fail
   go_ret;exact⟨L,lq,lc,rfl,R1.out.le,R1.out.lo,R1.out.tr,R1.out.nw,R1.out.sr,R1.out.kp⟩
structure ROW (B:Nat) (w0 W:World) (gb gs g:Nat) (s0:Src) (j:Nat) (L:List Wtv) (lv:Value):Prop where
 lo:W.ownsRow w0.heap.size 136 4 lv L.length (L.flatMap wv)
 le:L.map (·.x)=(gRow gWt s0 j).1
 sr:SR B W gs g (gRow gWt s0 j).2
 tr:∀ y∈L,TR W y.p y.x.p
 nw:∀ y∈L,NF W w0.heap.size y.p
 cb:CB W gb gs g
 kp:Kept (λk=>k=g∨k=gs) w0 W
 gl:g<w0.heap.size
 sl:gs<w0.heap.size
 bl:gb<w0.heap.size
structure RPW (B:Nat) (w0 W:World) (gb gs g:Nat) (s0:Src) (j:Nat) (L:List Wtv) (lv:Value) (y:Wtv):Prop where
 lo:W.ownsRow w0.heap.size 136 4 lv L.length (L.flatMap wv)
 le:(L++[y]).map (·.x)=(gRow gWt s0 (j+1)).1
 sr:SR B W gs g (gRow gWt s0 (j+1)).2
 tr:∀ z∈L++[y],TR W z.p z.x.p
 nw:∀ z∈L++[y],NF W w0.heap.size z.p
 cb:CB W gb gs g
 kp:Kept (λk=>k=g∨k=gs) w0 W
 gl:g<w0.heap.size
 sl:gs<w0.heap.size
 bl:gb<w0.heap.size
section
variable {B : Nat} {w0 W W' : World} {gb gs g : Nat} {s0 : Src} {j : Nat} {L : List Wtv} {lv lv' : Value} {y : Wtv}
theorem RPW.below (h:RPW B w0 W gb gs g s0 j L lv y) (hb:Below W.heap.size W W'):RPW B w0 W' gb gs g s0 j L lv y:=
 ⟨own_below h.lo hb,h.le,h.sr.below hb,λy hy=>(h.tr y hy).below hb,λy hy=>(h.nw y hy).below hb,h.cb.below hb,h.kp.trans (Kept.of_below hb),h.gl,h.sl,h.bl⟩
theorem ROW.read (h:ROW B w0 W gb gs g s0 j L lv) (e:y.x=(gWt (gRow gWt s0 j).2).1) (t:TR W' y.p y.x.p) (x:SR B W' gs g (gWt (gRow gWt s0 j).2).2) (k:Kept (λk=>k=g∨k=gs) W W') (n:NF W' W.heap.size y.p):RPW B w0 W' gb gs g s0 j L lv y:=by
 have hs:=h.kp.size;have h1:=h.gl;have h2:=h.sl;refine⟨own_kept h.lo k (λi hi e=>by have:=(h.lo.lt i hi).1;omega),?_,x,λz hz=>?_,λz hz=>?_,h.cb.kept k,h.kp.trans k,h1,h2,h.bl⟩
 ·rw[List.map_append,h.le]
  show _=(gRow gWt s0 j).1 ++[_]
  rw[←e];rfl
 ·rcases List.mem_append.1 hz with hz |hz
  ·exact(h.tr z hz).keptS k (λa ha e=>by have:=(h.nw z hz).ge a ha;omega)
  ·rw[List.mem_singleton.1 hz];exact t
 ·rcases List.mem_append.1 hz with hz |hz
  ·exact(h.nw z hz).kept k (λa ha e=>by have:=(h.nw z hz).ge a ha;omega)
  ·rw[List.mem_singleton.1 hz];exact n.low hs
theorem RPW.more (h:RPW B w0 W gb gs g s0 j L lv y) (ho:W'.ownsRow w0.heap.size 136 4 lv' (L.length+1) (L.flatMap wv++[y].flatMap wv)) (hr:W.grownBy W' lv.ownBlock) (hB:B≤w0.heap.size):ROW B w0 W' gb gs g s0 (j+1) (L++[y]) lv':=by
 have h1:=h.gl;have h2:=h.sl;have h4:=h.bl;have k:Kept (λk=>lv.ownBlock=some k) W W':=(Kept.refl _ W).grown hr (λk e=> .inl e);have hge:∀ i,lv.ownBlock=some i→w0.heap.size≤i:=λi hi=>(h.lo.lt i hi).1
 have hap:∀ z∈L++[y],∀ a:Addr,z.p=some a→¬ lv.ownBlock=some a.block:=λz hz a ha e=>by
  obtain⟨cs,hcs⟩:=(h.nw z hz).ty a ha;exact own_apart h.lo hcs (by decide) e
 refine⟨by rw[List.length_append,List.flatMap_append];exact ho,h.le,⟨h.sr.bx.kept k (λe=>by have:=hge _ e;omega),h.sr.rd.stays k (λe=>by have:=hge _ e;omega) (λi hi e=>by have:=hge _ e;omega),h.sr.ne,h.sr.by_,h.sr.lb⟩,λz hz=>(h.tr z hz).keptS k (hap z hz),λz hz=>(h.nw z hz).kept k (hap z hz),⟨(k.cell (p:=⟨gb,0,none⟩) h.cb.lt (λe=>by have h9:w0.heap.size≤gb:=hge _ e;omega)).trans h.cb.c,Nat.lt_of_lt_of_le h.cb.lt k.size,h.cb.ns,h.cb.ng⟩,⟨k.os.trans h.kp.os,k.tape.trans h.kp.tape,k.output.trans h.kp.output,Nat.le_trans h.kp.size k.size,λi hi hf=>(k.block i (Nat.lt_of_lt_of_le hi h.kp.size) (λe=>by have:=hge _ e;omega)).trans (h.kp.block i hi hf)⟩,h1,h2,h4⟩
end
set_option maxHeartbeats 1000000 in
theorem rowsW_t (B gb gs g:Nat) (s:Src) (W:World) (x:SR B W gs g s) (hc:CB W gb gs g) (hl:s.xs.length≤1000000):
  Calls Tryz.prog 101 #[.pointer (some ⟨gs,0,none⟩),.func (.func 102) #[] #[.pointer (some ⟨gb,0,none⟩)]] W λe W'=>∃ (l:List Wtv) (A:Option Addr) (c:Nat),e= .returned (.slice A l.length c)∧l.map (·.x)=(gRow gWt (gNum s 1).2 (gNum s 1).1).1 ∧W'.ownsRow W.heap.size 136 4 (.slice A l.length c) l.length (l.flatMap wv)∧(∀ y∈l,TR W' y.p y.x.p)∧(∀ y∈l,NF W' W.heap.size y.p)∧SR B W' gs g (gRow gWt (gNum s 1).2 (gNum s 1).1).2 ∧Kept (λk=>k=g∨k=gs) W W':=by
 have NM:=hid (snum_t B gs g 1 s W x (by decide) (by decide));have HV:=gNum_lt (n:=1) x.by_;have L1:=gNum_len s 1;have X:=hid x;have HC:=hid hc;obtain⟨⟨n,s1⟩,E1⟩:∃ r,gNum s 1=r:=⟨_,rfl⟩;rw[E1] at NM HV L1 ⊢
 dsimp only at NM HV L1 ⊢
 have e1:i64N n=(n:Int):=i64N_small (by have:n<256:=HV;omega);rw[e1] at NM;have n9:n<256:=HV;have hcf:=enters_of Tryz.func102 (by kernel_rfl) rfl;have M1:=hid (show s1.xs.length≤1000000 from by omega);have GL:=hid (λj=>show(gRow gWt s1 j).2.xs.length≤1000000 from by
  have h:=gRow_lenx gWt_len s1 j;have:=M1.out;omega)
 clear E1 e1 HV L1 x hc
 go_enter Tryz.func101,Tryz.ntmps101
 go_wp2_with fail
 refine NM.out.mono ?_
 rintro e w1 ⟨rfl,x1,k1⟩
 have R0:=hid (show ROW B W w1 gb gs g s1 0 [] (.slice none 0 0) from
  ⟨World.ownsRow_nil _ _ _ _,rfl,x1,(λy hy=>by cases hy),(λy hy=>by cases hy),HC.out.kept (k1.mono λk e=> .inl e),k1.mono λk e=> .inl e,X.out.rd.rd.lt,X.out.bx.lt,HC.out.lt⟩)
 have HBW:=hid (show B≤W.heap.size from by have:=X.out.lb;have:=X.out.bx.lt;omega);clear x1 k1 NM HC X
 go_upto_region 3 with(fail)
 go_loopw [5,8] (λlv t wr=>∃ (j:Nat) (L:List Wtv),j≤n∧t= .int .i64 (j:Int)∧ROW B W wr gb gs g s1 j L lv) (λ_ t _=>n- (intOf t).toNat)
 case atStart=>exact⟨0,[],by omega,rfl,R0.out⟩
 case round=>
  clear R0;obtain⟨j,L,hj,rfl,ro⟩:=hrel;have R1:=hid ro;clear ro
  by_cases hlt:j<n
  ·have j1:(j:Int)< (n:Int):=by omega
   have HLT:=hid hlt;have HLL:=hid (show L.length=j from by have h:=congrArg List.length R1.out.le;rw[List.length_map,gRow_len] at h;exact h);clear hlt;go_wp2_with fail
   refine(wtc_t B gb gs g _ wr R1.out.sr R1.out.cb (GL.out j)).mono ?_
   rintro e w2 ⟨y,rfl,hy,ty,xy,ky,ny⟩
   have R2:=hid (R1.out.read hy ty xy ky ny);clear hy ty xy ky ny R1;have BA:=hid ((Below.refl w2.heap.size w2).alloc (Nat.le_refl _) (.cells (wv y).toArray 136));have R3:=hid (R2.out.below BA.out);have Q1:=hid (row_one wv 4 y w2 136);have HB:=hid (show W.heap.size≤(w2.alloc (.cells (wv y).toArray 136)).heap.size from R3.out.kp.size);have LL:=hid (show L.length+1≤1000000 from by have:=HLL.out;have:=HLT.out;omega)
   go_wp2_with (first
    |((with_reducible refine at_op (.buildSlice 74 1 #[(0,.tmp 12)]) rfl ?_);go_must (refine build1 74 136 (.tmp 12) rfl rfl (wv y) rfl (build_wv y _) ?_))
    |((with_reducible refine at_op (.call { callee:= .builtin .append,args:= #[.tmp 10,.tmp 13],argTypes:= #[74,74] }) rfl ?_);go_must (refine append_rows (.tmp 10) (.tmp 13) 74 rfl rfl 136 Tryz.underlying74 infoW rfl (by decide) (by decide) wv_len wv_one W.heap.size u5 L.length (L.flatMap wv) rfl R3.out.lo (some ⟨w2.heap.size,0,none⟩) 1 1 rfl [y] rfl Q1.out LL.out HB.out ?_);intro v1 w5 h2 h3 h5 h6))
   have R4:=hid (R3.out.more h2.out h3.out HBW.out);clear h2 h3 h5 h6 R2 R3 Q1 BA
   go_roundw
   case rel=>exact⟨j+1,L++[y],HLT.out,by go_num,R4.out⟩
   case measure=>have:=HLT.out;simp[intOf];omega
  ·obtain rfl:j=n:=by omega
   clear hlt;obtain⟨lq,lc,hv,_⟩:=own_form R1.out.lo;subst hv;go_wp2_with fail
   go_ret;exact⟨L,lq,lc,rfl,R1.out.le,R1.out.lo,R1.out.tr,R1.out.nw,R1.out.sr,R1.out.kp⟩
end
theorem ret_blkS {P:Program} {fn:Func} {R:Ending→World→Prop} {a:Act} {w:World} {p u:Tmp} {ty:TypeId} (hr:fn.results= #[.cell p ty,.tmp u]) (hd:a.defers=[]) (g:Nat) (t:TypeId) (cs:List Value) (d:TypeDesc)
  (hp:a.tmps.getD p undef= .pointer (some ⟨g,0,none⟩)) (hg:Blk w g t cs) (hu:P.underlying ty=some d)
  (hdd:(match d with | .struct _ | .array _ _=>true |_=>false)=true) (hi:(P.info? ty).map (·.size)=some cs.length) (v:Value) (hv:a.tmps.getD u undef=v)
  (hR:R (.returned (.tuple #[.agg cs.toArray,v])) w):bodyPost P fn R .ret a w:=by
 have hp':a.tmps[p]?.getD undef= .pointer (some ⟨g,0,none⟩):=by simpa using hp
 have hv':a.tmps[u]?.getD undef=v:=by simpa using hv
 refine bodyPost_ret (v:= .tuple #[.agg cs.toArray,v]) ?_ hd hR;simp[results,hr,hp',hv',asAddr,run_loadVar_row w g t ty cs.toArray (0,0) d hg hu hdd (by simpa using hi)]
end
def AP (y:Rpv) (x:Spv):Prop:=∀ z∈x.its,∀ k,OB y.p k→¬ OB z.p k
end
end
structure SS (w0 W:World) (x y:Spv):Prop where
 a:Blk W w0.heap.size 80 (sv x)
 b:Blk W (w0.heap.size+1) 80 (sv y)
 rx:SpW W x
 ry:SpW W y
 bel:Below w0.heap.size w0 W
end
end
end
end Go.Proofs.YtjlophplcmidlaaGreatDoor
