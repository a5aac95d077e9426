/-
  THE REFERENCE
-/
import Derived.Test.YtlipjglehongeaaGreatDoorGb43
import Derived.Test.YtlipjglehongeaaGreatDoorTk
open Go.Lib (hid)
set_option maxRecDepth 100000
namespace Go.Proofs.YtlipjglehongeaaGreatDoor
open Go Go.RowKit Sh
variable {E : Nat → Prop}
def finP (a:Sp×Rp×Bool) (r:Qp):Sp×List Rp:=if a.2.2 then((putP (noteP a.1 a.2.1) r).1,a.2.1::(putP (noteP a.1 a.2.1) r).2) else(noteP a.1 a.2.1,[a.2.1])
theorem answ_fin (s:Sp) (r:Qp):answP s r=finP (actP s r) r:=rfl
theorem fin_no {s:Sp} {x:Rp} {r:Qp} :finP (s,x,false) r=(noteP s x,[x]):=rfl
theorem fin_yes {s:Sp} {x:Rp} {r:Qp} :finP (s,x,true) r=((putP (noteP s x) r).1,x::(putP (noteP s x) r).2):=rfl
theorem tell_sp {x:Spv} {k:Nat} {cl sq kd:Int} {t:List Fld} {tp:Option Addr} {tc:Nat} (hc:cl=(k:Int)):Spv.sp { x with last:=x.last.set k ⟨⟨cl,sq,kd,t,false⟩,tp,tc⟩ } =noteP x.sp ⟨cl,sq,kd,t,false⟩:=by
 unfold Spv.sp noteP
 dsimp only
 rw[map_set_to,hc,Int.toNat_natCast]
structure RQ (E:Nat→Prop) (W:World) (gg:Nat) (q:Option Addr) (r:Rv):Prop where
 p:TR W r.p (fl r.r.n r.r.G)
 t:TR W r.t (fl r.r.m r.r.H)
 pof:OffT (GFr gg q) r.p (fl r.r.n r.r.G)
 tof:OffT (GFr gg q) r.t (fl r.r.m r.r.H)
 pe:OffT E r.p (fl r.r.n r.r.G)
 te:OffT E r.t (fl r.r.m r.r.H)
theorem RQ.move {W W':World} {gg:Nat} {q q':Option Addr} {r:Rv} (h:RQ E W gg q r) (hk:Kept (GFr gg q) W W') (hq:∀ b,OB q' b→OB q b∨W.heap.size≤b):RQ E W' gg q' r:=⟨h.p.keptF hk h.pof,h.t.keptF hk h.tof,off_q h.p h.pof hq,off_q h.t h.tof hq,h.pe,h.te⟩
theorem RQ.below {W W':World} {gg:Nat} {q:Option Addr} {r:Rv} (h:RQ E W gg q r) (hb:Below W.heap.size W W'):RQ E W' gg q r:=⟨h.p.below hb,h.t.below hb,h.pof,h.tof,h.pe,h.te⟩
structure SmP (x:Spv) (r:Rq):Prop where
 w16:x.wts.length≤16
 cl:∀ y∈x.wts,clB y.x.cl=true
 il:x.its.length≤64
 n0:0≤x.now
 n1:x.now≤1099511627776
 l0:0≤r.le
 l1:r.le≤1099511627776
theorem tellE_t (w0:World) (gg k:Nat) (x:Spv) (q:Option Addr) (c:Nat) (r:Rv) (kd:Int) (W:World) (h:GW E w0 W gg x q c []) (hc:r.r.cl=(k:Int)) (h4:k<4):
  Calls Tryz.prog 77 #[.pointer (some ⟨gg,0,none⟩),.agg (rv r).toArray,.int .i64 kd,.slice none 0 0] W λe W'=>e= .returned (.tuple #[])∧∃ (z:Rpv) (q':Option Addr) (c':Nat),z.r=tellP (qp r.r) kd∧GW E w0 W' gg { x with last:=x.last.set k z } q' c' [z]∧Spv.sp { x with last:=x.last.set k z } =noteP x.sp (tellP (qp r.r) kd)∧Kept (GFr gg q) W W'∧∀ b,OB q' b→OB q b∨W.heap.size≤b:=by
 refine(reftell_t w0 gg k x q c [] r kd none [] 0 W h hc h4 ⟨λj hj=>absurd hj (Nat.not_lt_zero j),Nat.zero_le _⟩ (λhne=>absurd rfl hne) (λhne=>absurd rfl hne) (Nat.zero_le _)).mono ?_
 rintro e W' ⟨he,q',c',g,hk,hq⟩
 exact⟨he,_,q',c',rfl,g,tell_sp hc,hk,hq⟩
theorem tellT_t (w0:World) (gg k:Nat) (x:Spv) (q:Option Addr) (c:Nat) (r:Rv) (tp:Option Addr) (t:List Fld) (tc:Nat) (W:World) (h:GW E w0 W gg x q c []) (hc:r.r.cl=(k:Int)) (h4:k<4) (ht:TR W tp t) (hto:OffT (GFr gg q) tp t) (hte:OffT E tp t):
  Calls Tryz.prog 77 #[.pointer (some ⟨gg,0,none⟩),.agg (rv r).toArray,.int .i64 2,.slice tp t.length tc] W λe W'=>e= .returned (.tuple #[])∧∃ (z:Rpv) (q':Option Addr) (c':Nat),z.r=giveP (qp r.r) t∧GW E w0 W' gg { x with last:=x.last.set k z } q' c' [z]∧Spv.sp { x with last:=x.last.set k z } =noteP x.sp (giveP (qp r.r) t)∧Kept (GFr gg q) W W'∧∀ b,OB q' b→OB q b∨W.heap.size≤b:=by
 refine(reftell_t w0 gg k x q c [] r 2 tp t tc W h hc h4 ht hto hte (Nat.zero_le _)).mono ?_
 rintro e W' ⟨he,q',c',g,hk,hq⟩
 exact⟨he,_,q',c',rfl,g,tell_sp hc,hk,hq⟩
theorem range_pre {W:World} {b o:Nat} {A B:List Value} (h:W.rangeAt b o (A++B)):W.rangeAt b o A:=λi v hv=>h i v (by rw[List.getElem?_append_left (List.getElem?_eq_some_iff.1 hv).1];exact hv)
theorem GW.row {w0 W:World} {gg c:Nat} {x:Spv} {q:Option Addr} {R:List Rpv} (h:GW E w0 W gg x q c R):W.rangeAt gg 0 (sv x):=range_pre (rows_of_blk h.box)
theorem Kept.range {F:Nat→Prop} {a w:World} (h:Kept F a w) {b o:Nat} {l:List Value} (hb:b<a.heap.size) (hf:¬ F b) (hr:a.rangeAt b o l):w.rangeAt b o l:=λi v hv=>(h.cell (p:=⟨b,o+i,none⟩) hb hf).trans (hr i v hv)
set_option maxHeartbeats 2000000 in
theorem refout_t (w0:World) (gg k:Nat) (x:Spv) (q:Option Addr) (c:Nat) (r:Rv) (W:World) (h:GW E w0 W gg x q c []) (hr:RQ E W gg q r) (hs:SmP x r.r) (hc:r.r.cl=(k:Int)) (h4:k<4):
  Calls Tryz.prog 78 #[.pointer (some ⟨gg,0,none⟩),.agg (rv r).toArray] W λe W'=>e= .returned (.tuple #[])∧∃ x' q' c' R,GW E w0 W' gg x' q' c' R∧x'.sp=(finP (x.sp,bringP x.sp (qp r.r)) (qp r.r)).1 ∧R.map (·.r)=(finP (x.sp,bringP x.sp (qp r.r)) (qp r.r)).2 ∧Kept (GFr gg q) W W':=by
 obtain⟨W1,hW1⟩:∃ V,W.alloc (.cells (rv r).toArray 54)=V:=⟨_,rfl⟩;have B1:=hid (show Below W.heap.size W W1 from by rw[←hW1];exact(Below.refl _ _).alloc (Nat.le_refl _) _);have BR:=hid (show Blk W1 W.heap.size 54 (rv r) from by rw[←hW1];exact Blk.new W 54 (rv r));have G1:=hid (h.below B1.out);have Q1:=hid (hr.below B1.out);have HNG:=hid (show W.heap.size≠gg from by have:=h.box.lt;omega);have FR:=hid (rv_size r);have HS:=hid hs;have HC:=hid hc;have nI:x.sp.its.length=x.its.length:=List.length_map _;have hb:bringP x.sp (qp r.r)=if 64≤x.its.length∨24≤ownN r.r.cl x.sp.its then(tellP (qp r.r) 5,false) else(tellP (qp r.r) 1,true):=by unfold bringP;rw[nI];rfl
 have HB:=hid hb;clear h hr hs hc nI hb
 go_enter Tryz.func78,Tryz.ntmps78
 go_upto_region 1 with(fail)
 clear hW1;obtain⟨U,hU⟩:∃ U,W1.drew=U:=⟨_,rfl⟩;have BU:=hid (show Below W1.heap.size W1 U from by rw[←hU];exact(Below.refl _ _).drew);have GU:=hid (G1.out.below BU.out);have QU:=hid (Q1.out.below BU.out);have KU:=hid (show Kept (GFr gg q) W U from(Kept.of_below B1.out).trans (Kept.of_below BU.out));have s0:U.rangeAt gg 0 (sv x)∧Blk U W.heap.size 54 (rv r):=⟨GU.out.row,BR.out.below BU.out BR.out.lt⟩;have FX:=hid (sv_size x GU.out.sp.l4);clear BU G1 Q1;refine wp_region_held (S:=λY=>Y.rangeAt gg 0 (sv x)∧Blk Y W.heap.size 54 (rv r)) (by kernel_rfl) ?_;change wpAnyH _ _ _ _ _ _ _ _ W1.drew;rw[hU];clear hU
 by_cases h64:64≤x.its.length
 ·have e1:decide ((64:Int)≤(x.its.length:Int))=true:=decide_eq_true (by omega);refine tka9 0 s0 ?_;refine tka9 1 s0 ?_;refine tka9 2 s0 ?_;refine tka9 3 s0 ?_;refine tk9 4 ?_ ?_ s0 ?_;rotate_left 1
  ·(intro w hS;have hs:=(hS.1 1 _ rfl);clear hS;go_simp;try (with_reducible rfl))
  refine tka9 5 s0 ?_;refine tka9 6 s0 ?_;refine tka9 7 s0 ?_;refine tku9 8 s0 ?_;refine tku9 9 s0 ?_;refine tku9 10 s0 ?_;refine tku9 11 s0 ?_;refine tku9 12 s0 ?_;refine tku9 13 s0 ?_;refine tku9 14 s0 ?_;refine tku9 15 s0 ?_;refine tka9 16 s0 ?_;refine wpAnyH_done (by kernel_rfl) ?_ _;go_simp;have HBF:=hid (HB.out.trans (if_pos (.inl h64)));have TE:=hid (tellE_t w0 gg k x q c r 5 U GU.out HC.out h4);have BRt:=hid (s0.2)
  go_wp2_with ((with_reducible refine load_blk 54 (.tmp 3) W.heap.size 54 (rv r) _ rfl rfl ?_ Tryz.underlying54 ?_ ?_ ?_ ?_);exact BRt.out;exact rfl;exact FR.out;exact rfl)
  refine TE.out.mono ?_
  rintro e w7 ⟨rfl,z,q7,c7,hz,g7,s7,k7,o7⟩
  go_wp2_with fail
  refine bodyPost_ret (results_none rfl _ _ _) rfl ?_;exact⟨rfl,_,q7,c7,[z],g7,by rw[HBF.out,fin_no];exact s7,by rw[HBF.out,fin_no];exact congrArg (λz=>[z]) hz,KU.out.trans k7⟩
 ·have e1:decide ((64:Int)≤(x.its.length:Int))=false:=decide_eq_false (by omega);have OW:=hid (refOwn_t x r.r.cl U GU.out.sp);obtain⟨cn,hcn⟩:∃ z,ownN r.r.cl x.sp.its=z:=⟨_,rfl⟩;rw[hcn] at OW HB;clear hcn;refine tka9 0 s0 ?_;refine tka9 1 s0 ?_;refine tka9 2 s0 ?_;refine tka9 3 s0 ?_;refine tk9 4 ?_ ?_ s0 ?_;rotate_left 1
  ·(intro w hS;have hs:=(hS.1 1 _ rfl);clear hS;go_simp;try (with_reducible rfl))
  refine tka9 5 s0 ?_;refine tka9 6 s0 ?_;refine tka9 7 s0 ?_;refine tka9 8 s0 ?_;refine tka9 9 s0 ?_;refine tka9 10 s0 ?_;refine tkg9 11 (v:= .agg (sv x).toArray) (yieldsIf_load_mid (by kernel_rfl) 46 (.tmp 14) rfl gg 0 (by go_simp) (sv x) _ (λ_ h=>h.1) Tryz.underlying46 rfl (FX.out)) s0 ?_;refine tka9 12 s0 ?_;refine tk9 13 ?_ ?_ s0 ?_;rotate_left 1
  ·(intro w hS;have hs:=(rv_cells hS.2).1;clear hS;go_simp;try (with_reducible rfl))
  refine rdw9 14 λK hK=>?_
  go_simp;refine OW.out.mono ?_
  rintro e w2 ⟨rfl,b2⟩
  have G2:=hid (GU.out.below b2);have Q2:=hid (QU.out.below b2);have K2:=hid (show Kept (GFr gg q) W w2 from KU.out.trans (Kept.of_below b2));have s2:w2.rangeAt gg 0 (sv x)∧Blk w2 W.heap.size 54 (rv r):=⟨G2.out.row,s0.2.below b2 s0.2.lt⟩;refine hK.out _ _ s2 (λ_=>?_);clear hK K b2 OW s0 GU QU KU
  by_cases h24:24≤cn
  ·have e2:decide ((24:Int)≤(cn:Int))=true:=decide_eq_true (by omega);have HBF:=hid (HB.out.trans (if_pos (.inr h24)));refine tka9 15 s2 ?_;refine tka9 16 s2 ?_;refine wpAnyH_done (by kernel_rfl) ?_ _;go_simp;have TE:=hid (tellE_t w0 gg k x q c r 5 w2 G2.out HC.out h4);have BRt:=hid (s2.2)
   go_wp2_with ((with_reducible refine load_blk 54 (.tmp 3) W.heap.size 54 (rv r) _ rfl rfl ?_ Tryz.underlying54 ?_ ?_ ?_ ?_);exact BRt.out;exact rfl;exact FR.out;exact rfl)
   refine TE.out.mono ?_
   rintro e w7 ⟨rfl,z,q7,c7,hz,g7,s7,k7,o7⟩
   go_wp2_with fail
   refine bodyPost_ret (results_none rfl _ _ _) rfl ?_;exact⟨rfl,_,q7,c7,[z],g7,by rw[HBF.out,fin_no];exact s7,by rw[HBF.out,fin_no];exact congrArg (λz=>[z]) hz,K2.out.trans k7⟩
  ·have e2:decide ((24:Int)≤(cn:Int))=false:=decide_eq_false (by omega);have HBF:=hid (HB.out.trans (if_neg (not_or.2 ⟨h64,h24⟩)));refine tka9 15 s2 ?_;refine tka9 16 s2 ?_;refine wpAnyH_done (by kernel_rfl) ?_ _;go_simp;have TE:=hid (tellE_t w0 gg k x q c r 1 w2 G2.out HC.out h4);have BRt:=hid (s2.2)
   go_wp2_with ((with_reducible refine load_blk 54 (.tmp 3) W.heap.size 54 (rv r) _ rfl rfl ?_ Tryz.underlying54 ?_ ?_ ?_ ?_);exact BRt.out;exact rfl;exact FR.out;exact rfl)
   refine TE.out.mono ?_
   rintro e w7 ⟨rfl,z,q7,c7,hz,g7,s7,k7,o7⟩
   have Q7:=hid (Q2.out.move k7 o7);have BR7:=hid (s2.2.kept k7 (G2.out.blkOff s2.2 (by decide) HNG.out));have PU:=hid (refgput_t w0 gg { x with last:=x.last.set k z } q7 c7 [z] r w7 g7 Q7.out.t Q7.out.tof Q7.out.te HS.out.w16 HS.out.cl (by have:=HS.out.il;show x.its.length≤900;omega) ⟨HS.out.n0,HS.out.n1⟩ (by show 1≤100;decide) ⟨HS.out.l0,HS.out.l1⟩);have S7:=hid s7;have HZ:=hid hz;have K7:=hid (K2.out.trans k7);have O7:=hid o7;have HSW:=hid K2.out.size;clear g7 s7 k7 o7 hz TE BRt
   go_wp2_with ((with_reducible refine load_blk 54 (.tmp 3) W.heap.size 54 (rv r) _ rfl rfl ?_ Tryz.underlying54 ?_ ?_ ?_ ?_);exact BR7.out;exact rfl;exact FR.out;exact rfl)
   refine PU.out.mono ?_
   rintro e w8 ⟨rfl,x8,q8,c8,R8,g8,p8,r8,k8⟩
   go_wp2_with fail
   go_end0
   refine⟨rfl,x8,q8,c8,_,g8,?_,?_,K7.out.moreF k8 (λb e=>e.elim (λe=> .inl (.inl e)) (λe=>(O7.out b e).imp .inr (λe=>Nat.le_trans HSW.out e)))⟩
   ·rw[HBF.out,fin_yes,p8,S7.out]
   ·rw[HBF.out,fin_yes,List.map_append,r8,S7.out];exact congrArg (λz=>z::_) HZ.out
end Go.Proofs.YtlipjglehongeaaGreatDoor
