/-
  THE REFERENCE OF CHAPTER 4
-/
import Derived.Test.YtjlophplcmidlaaGreatDoorAd34
import Derived.Test.YtjlophplcmidlaaGreatDoorAd42
import Derived.Test.YtjlophplcmidlaaGreatDoorTk
open Go.Lib (hid)
set_option maxRecDepth 100000
namespace Go.Proofs.YtjlophplcmidlaaGreatDoor
open Go Go.RowKit Sh
theorem refver_bad (xs:List Nat) (A B C:Option Addr) (m c m1 c1 m2 c2:Nat) (w:World) (hx:xs.length=m) (hp:Sr w A xs) (hb:Bytes xs) (hml:m≤9223372036854775807) (hc:m≤c) (hf:formN xs=false):
  Calls Tryz.prog 26 #[.slice A m c,.slice B m1 c1,.slice C m2 c2] w λe w'=>e= .returned (.int .i64 2)∧Below w.heap.size w w':=by
 have FM:=hid (refform_t xs A m c w hx hp hb hml hc);rw[hf] at FM;clear hx hp hb hml hc hf
 go_enter Tryz.func26,Tryz.ntmps26
 go_wp2_with fail
 refine FM.out.mono ?_
 rintro e w1 ⟨rfl,b1⟩
 go_wp2_with fail
 go_ret;exact⟨rfl,b1⟩
theorem wid_of (xs:List Nat) (i:Nat) (hi:i<4) (h:val xs=i+1):widN xs=(kd i).w:=by
 unfold widN;rw[if_pos (by omega),h,Nat.add_sub_cancel]
theorem four_val (zs:List Nat) (hl:4≤zs.length):val (zs.take 4)=((gt zs 0 * 256+gt zs 1) * 256+gt zs 2) * 256+gt zs 3:=by
 match zs,hl with
 |a::b::c::d::l,_=>simp[val,gt]
set_option maxHeartbeats 4000000 in
theorem refver_len (xs zs:List Nat) (i:Nat) (A B C:Option Addr) (c m1 c1 m2 c2:Nat) (w:World) (hx:xs.length=56) (hp:Sr w A xs) (hb:Bytes xs) (hc:56≤c) (hf:formN xs=true) (hi:i<4) (hvi:val ((xs.drop 4).take 4)=i+1) (hz:zs.length=m2) (hpz:Sr w C zs) (hzb:Bytes zs) (_:m2≤c2) (_:m2≤9223372036854775807) (hne:m2≠lszN i):
  Calls Tryz.prog 26 #[.slice A 56 c,.slice B m1 c1,.slice C m2 c2] w λe w'=>e= .returned (.int .i64 3)∧Below w.heap.size w w':=by
 have HNE:=hid hne;clear hne;have HX:=hid hx;have HP:=hid hp;have HB:=hid hb;have HZ:=hid hz;have HPZ:=hid hpz;have HZB:=hid hzb;have FM:=hid (refform_t xs A 56 c w hx hp hb (by decide) hc);rw[hf] at FM;have HT8:=hid (show((xs.drop 4).take 4).length=4∧Bytes ((xs.drop 4).take 4) from⟨by rw[List.length_take,List.length_drop];omega,bytes_take (bytes_drop hb 4) 4⟩);obtain⟨p2,hp2,hs8⟩:=slice_mid (P:=Tryz.prog) (t:=25) (e:=5) Tryz.underlying25 byte_size A 56 c 4 8 (by omega) (by omega);rw[show((4:Nat):Int)=4 from rfl,show((8:Nat):Int)=8 from rfl,show 8-4=4 from rfl] at hs8;have SP:=hid (λW (h:Sr W A xs)=>show Sr W p2 ((xs.drop 4).take 4) from(h.drop (p2:=p2) (n:=4) (λ_=>hp2 (by omega))).take 4);obtain⟨c8,hc8⟩:∃ x,c-4=x:=⟨_,rfl⟩;rw[hc8] at hs8;have CH:=hid (λW=>refchains_t i hi W);have SZ:=hid (λW=>refsize_t i hi W);have hp9:=kd_p i hi;have HWD:=hid (wid_of _ i hi hvi);have HLS:=hid (show lszN i=204+32 * (kd i).p from rfl);obtain⟨p,hpp⟩:∃ p,(kd i).p=p:=⟨_,rfl⟩;obtain⟨v,hv⟩:∃ v,(kd i).w=v:=⟨_,rfl⟩;obtain⟨N,hN⟩:∃ x,lszN i=x:=⟨_,rfl⟩;rw[hpp] at CH HLS hp9;rw[hv] at CH SZ HWD;rw[hN] at SZ HLS;have HN:=hid hN;have HPP:=hid hpp;have HV:=hid hv;have HVI:=hid hvi;have HII:=hid hi;have e1:IntKind.i64.wrap (32 * (p:Int))=32 * (p:Int):=IntWalk.i64_in _ (by omega);clear hx hp hb hz hpz hzb hf hp2 hc8 hpp hv hN hvi hi
 go_enter Tryz.func26,Tryz.ntmps26
 go_wp2_with fail
 refine FM.out.mono ?_
 rintro e w1 ⟨rfl,b1⟩
 have B1:=hid b1;clear b1 FM;go_wp2_with fail
 refine(refwidth_t ((xs.drop 4).take 4) p2 c8 w1 HT8.out.1 (SP.out _ (HP.out.below B1.out)) HT8.out.2).mono ?_
 rintro e w2 ⟨rfl,b2⟩
 have B2:=hid (B1.out.trans (b2.mono B1.out.size));rw[HWD.out];clear b2 B1 hs8 HWD;go_wp2_with fail
 refine(CH.out _).mono ?_
 rintro e w3 ⟨rfl,rfl⟩
 go_upto_region 5 with(fail)
 have t0:((m2:Int) != (N:Int))=true:=by rw[bne_iff_ne];have h1:=HNE.out;rw[HN.out] at h1;omega
 have BD:=hid (B2.out.trans ((Below.refl _ _).drew.mono B2.out.size));refine wp_region_held (S:=λ_=>True) (by kernel_rfl) ?_;change wpAnyH _ _ _ _ _ _ _ _ w2.drew;obtain⟨V,hV⟩:∃ V,w2.drew=V:=⟨_,rfl⟩;rw[hV] at BD ⊢;clear hV B2;refine tka9 0 trivial ?_;refine tka9 1 trivial ?_;refine tka9 2 trivial ?_;refine rd9 3 λK hK=>?_
 go_simp;refine(SZ.out V).mono ?_
 rintro e w4 ⟨rfl,rfl⟩
 refine hK.out _ _ trivial (λ_=>?_);clear hK K;refine tka9 4 trivial ?_;refine tka9 5 trivial ?_;refine tku9 6 trivial ?_;refine tku9 7 trivial ?_;refine tku9 8 trivial ?_;refine tku9 9 trivial ?_;refine tku9 10 trivial ?_;refine tku9 11 trivial ?_;refine tku9 12 trivial ?_;refine tku9 13 trivial ?_;refine tku9 14 trivial ?_;refine tka9 15 trivial ?_;refine tka9 16 trivial ?_;refine tku9 17 trivial ?_;refine tku9 18 trivial ?_;refine tku9 19 trivial ?_;refine tku9 20 trivial ?_;refine tka9 21 trivial ?_;refine tka9 22 trivial ?_;refine tku9 23 trivial ?_;refine tku9 24 trivial ?_;refine tku9 25 trivial ?_;refine tku9 26 trivial ?_;refine tka9 27 trivial ?_;refine tka9 28 trivial ?_;refine tku9 29 trivial ?_;refine tku9 30 trivial ?_;refine tku9 31 trivial ?_;refine tku9 32 trivial ?_;refine tka9 33 trivial ?_;refine tka9 34 trivial ?_;refine tku9 35 trivial ?_;refine tku9 36 trivial ?_;refine tku9 37 trivial ?_;refine tku9 38 trivial ?_;refine tka9 39 trivial ?_;refine wpAnyH_done (by kernel_rfl) ?_ _;go_simp;go_wp2_with fail
 go_ret;exact⟨rfl,BD.out⟩
set_option maxHeartbeats 4000000 in
theorem refver_form (xs zs:List Nat) (i:Nat) (A B C:Option Addr) (c m1 c1 m2 c2:Nat) (w:World) (hx:xs.length=56) (hp:Sr w A xs) (hb:Bytes xs) (hc:56≤c) (hf:formN xs=true) (hi:i<4) (hvi:val ((xs.drop 4).take 4)=i+1) (hz:zs.length=m2) (hpz:Sr w C zs) (hzb:Bytes zs) (hz2:m2≤c2) (_:m2≤9223372036854775807) (heq:m2=lszN i) (hno:val ((zs.drop (40+32 * (kd i).p)).take 4)≠5):
  Calls Tryz.prog 26 #[.slice A 56 c,.slice B m1 c1,.slice C m2 c2] w λe w'=>e= .returned (.int .i64 3)∧Below w.heap.size w w':=by
 have HEQ:=hid heq;have HNO:=hid hno;clear heq hno;have HX:=hid hx;have HP:=hid hp;have HB:=hid hb;have HZ:=hid hz;have HPZ:=hid hpz;have HZB:=hid hzb;have FM:=hid (refform_t xs A 56 c w hx hp hb (by decide) hc);rw[hf] at FM;have HT8:=hid (show((xs.drop 4).take 4).length=4∧Bytes ((xs.drop 4).take 4) from⟨by rw[List.length_take,List.length_drop];omega,bytes_take (bytes_drop hb 4) 4⟩);obtain⟨p2,hp2,hs8⟩:=slice_mid (P:=Tryz.prog) (t:=25) (e:=5) Tryz.underlying25 byte_size A 56 c 4 8 (by omega) (by omega);rw[show((4:Nat):Int)=4 from rfl,show((8:Nat):Int)=8 from rfl,show 8-4=4 from rfl] at hs8;have SP:=hid (λW (h:Sr W A xs)=>show Sr W p2 ((xs.drop 4).take 4) from(h.drop (p2:=p2) (n:=4) (λ_=>hp2 (by omega))).take 4);obtain⟨c8,hc8⟩:∃ x,c-4=x:=⟨_,rfl⟩;rw[hc8] at hs8;have CH:=hid (λW=>refchains_t i hi W);have SZ:=hid (λW=>refsize_t i hi W);have hp9:=kd_p i hi;have HWD:=hid (wid_of _ i hi hvi);have HLS:=hid (show lszN i=204+32 * (kd i).p from rfl);obtain⟨p,hpp⟩:∃ p,(kd i).p=p:=⟨_,rfl⟩;obtain⟨v,hv⟩:∃ v,(kd i).w=v:=⟨_,rfl⟩;obtain⟨N,hN⟩:∃ x,lszN i=x:=⟨_,rfl⟩;rw[hpp] at CH HLS hp9;rw[hv] at CH SZ HWD;rw[hN] at SZ HLS;have HN:=hid hN;have HPP:=hid hpp;have HV:=hid hv;have HVI:=hid hvi;have HII:=hid hi;have e1:IntKind.i64.wrap (32 * (p:Int))=32 * (p:Int):=IntWalk.i64_in _ (by omega);clear hx hp hb hz hpz hzb hf hp2 hc8 hpp hv hN hvi hi
 go_enter Tryz.func26,Tryz.ntmps26
 go_wp2_with fail
 refine FM.out.mono ?_
 rintro e w1 ⟨rfl,b1⟩
 have B1:=hid b1;clear b1 FM;go_wp2_with fail
 refine(refwidth_t ((xs.drop 4).take 4) p2 c8 w1 HT8.out.1 (SP.out _ (HP.out.below B1.out)) HT8.out.2).mono ?_
 rintro e w2 ⟨rfl,b2⟩
 have B2:=hid (B1.out.trans (b2.mono B1.out.size));rw[HWD.out];clear b2 B1 hs8 HWD;go_wp2_with fail
 refine(CH.out _).mono ?_
 rintro e w3 ⟨rfl,rfl⟩
 go_upto_region 5 with(fail)
 have t0:((m2:Int) != (N:Int))=false:=by rw[bne_eq_false_iff_eq];have h1:=HEQ.out;rw[HN.out] at h1;omega
 have hmp:m2=204+32 * p:=by have h1:=HEQ.out;have h2:=HLS.out;rw[HN.out] at h1;omega
 have HMP:=hid hmp;have hcz:=hz2;obtain⟨p3,hp3,hs3⟩:=slice_mid (P:=Tryz.prog) (t:=25) (e:=5) Tryz.underlying25 byte_size C m2 c2 (40+32 * p) (44+32 * p) (by omega) (by omega);rw[show((40+32 * p:Nat):Int)=4+(36+32 * (p:Int)) by omega,show((44+32 * p:Nat):Int)=8+(36+32 * (p:Int)) by omega,show 44+32 * p- (40+32 * p)=4 by omega] at hs3;have SP3:=hid (λW (h:Sr W C zs)=>show Sr W p3 ((zs.drop (40+32 * p)).take 4) from(h.drop (p2:=p3) (n:=40+32 * p) (λ_=>hp3 (by omega))).take 4);obtain⟨c3,hc3⟩:∃ x,c2- (40+32 * p)=x:=⟨_,rfl⟩;rw[hc3] at hs3;have HT3:=hid (show((zs.drop (40+32 * p)).take 4).length=4∧Bytes ((zs.drop (40+32 * p)).take 4) from⟨by rw[List.length_take,List.length_drop,HZ.out];omega,bytes_take (bytes_drop HZB.out _) 4⟩);have HC5:=hid (code_eq (zs.drop (40+32 * p)) 5 (by rw[List.length_drop,HZ.out];omega) (bytes_drop HZB.out _) (by omega));clear hmp hp3 hc3 hcz;have BD:=hid (B2.out.trans ((Below.refl _ _).drew.mono B2.out.size));have ew4:IntKind.i64.wrap (4+(36+32 * (p:Int)))=4+(36+32 * (p:Int)):=IntWalk.i64_in _ (by omega);have ew8:IntKind.i64.wrap (8+(36+32 * (p:Int)))=8+(36+32 * (p:Int)):=IntWalk.i64_in _ (by omega);rw[HPP.out] at HNO;refine wp_region_held (S:=λ_=>True) (by kernel_rfl) ?_;change wpAnyH _ _ _ _ _ _ _ _ w2.drew;obtain⟨V,hV⟩:∃ V,w2.drew=V:=⟨_,rfl⟩;rw[hV] at BD ⊢;clear hV B2;have r1:=trivial;refine tka9 0 r1 ?_;refine tka9 1 r1 ?_;refine tka9 2 r1 ?_;refine rd9 3 λK hK=>?_
 go_simp;refine(SZ.out V).mono ?_
 rintro e w4 ⟨rfl,rfl⟩
 refine hK.out _ _ r1 (λ_=>?_);clear hK K;refine tka9 4 r1 ?_;refine tka9 5 r1 ?_;refine tka9 6 r1 ?_;refine tka9 7 r1 ?_;refine tka9 8 r1 ?_;refine tka9 9 r1 ?_;refine tka9 10 r1 ?_;refine tka9 11 r1 ?_;refine rd9 12 λK hK=>?_
 go_simp;refine(refnum_t 5 4 V (by decide) (by decide)).mono ?_
 rintro e w5 ⟨u,rfl,f5⟩
 obtain⟨A5,c5,rfl,hc5,s5,b5⟩:=fresh_op f5;rw[beN_length] at hc5 ⊢;have B5:=hid (BD.out.trans (b5.mono BD.out.size));have S5:=hid s5;have r5:=trivial;clear f5 hc5 s5 b5 BD;refine hK.out _ _ r5 (λ_=>?_);clear hK K;refine rd9 13 λK hK=>?_
 go_simp;refine(same_texts ((zs.drop (40+32 * p)).take 4) (beN 5 4) p3 A5 4 4 c3 c5 w5 HT3.out.1 (beN_length _ _) (SP3.out _ (HPZ.out.below B5.out)) S5.out HT3.out.2 (beN_bytes _ _)).mono ?_
 rintro e w6 ⟨rfl,rfl⟩
 rw[show decide ((zs.drop (40+32 * p)).take 4=beN 5 4)=false from decide_eq_false (λh=>HNO.out (HC5.out.1 h))];refine hK.out _ _ r5 (λ_=>?_);clear hK K;refine tka9 14 r5 ?_;refine tka9 15 r5 ?_;refine tka9 16 r5 ?_;refine tku9 17 r5 ?_;refine tku9 18 r5 ?_;refine tku9 19 r5 ?_;refine tku9 20 r5 ?_;refine tka9 21 r5 ?_;refine tka9 22 r5 ?_;refine tku9 23 r5 ?_;refine tku9 24 r5 ?_;refine tku9 25 r5 ?_;refine tku9 26 r5 ?_;refine tka9 27 r5 ?_;refine tka9 28 r5 ?_;refine tku9 29 r5 ?_;refine tku9 30 r5 ?_;refine tku9 31 r5 ?_;refine tku9 32 r5 ?_;refine tka9 33 r5 ?_;refine tka9 34 r5 ?_;refine tku9 35 r5 ?_;refine tku9 36 r5 ?_;refine tku9 37 r5 ?_;refine tku9 38 r5 ?_;refine tka9 39 r5 ?_;refine wpAnyH_done (by kernel_rfl) ?_ _;go_simp;go_wp2_with fail
 go_ret;exact⟨rfl,B5.out⟩
def Four (X:World) (b o:Nat) (s0 s1 s2 s3:Nat):Prop:=
 X.cell? ⟨b,o,none⟩=some (.int .u8 (s0:Int))∧X.cell? ⟨b,o+1,none⟩=some (.int .u8 (s1:Int))∧X.cell? ⟨b,o+2,none⟩=some (.int .u8 (s2:Int))∧X.cell? ⟨b,o+3,none⟩=some (.int .u8 (s3:Int))
theorem four_at {X:World} {b o:Nat} {zs:List Nat} (h:Sr X (some ⟨b,o,none⟩) zs) (hl:4≤zs.length):Four X b o (gt zs 0) (gt zs 1) (gt zs 2) (gt zs 3):=by
 obtain⟨b',o',e,_,hc⟩:=h (by omega)
 injection e with e
 injection e with e1 e2
 subst e1;subst e2;exact⟨hc 0 (by omega),hc 1 (by omega),hc 2 (by omega),hc 3 (by omega)⟩
set_option maxHeartbeats 4000000 in
theorem refver_q (xs zs:List Nat) (i:Nat) (A B C:Option Addr) (c m1 c1 m2 c2:Nat) (w:World) (hx:xs.length=56) (hp:Sr w A xs) (hb:Bytes xs) (hc:56≤c) (hf:formN xs=true) (hi:i<4) (hvi:val ((xs.drop 4).take 4)=i+1) (hz:zs.length=m2) (hpz:Sr w C zs) (hzb:Bytes zs) (hz2:m2≤c2) (hml2:m2≤9223372036854775807) (heq:m2=lszN i) (hyes:val ((zs.drop (40+32 * (kd i).p)).take 4)=5) (hq:32≤val (zs.take 4)):
  Calls Tryz.prog 26 #[.slice A 56 c,.slice B m1 c1,.slice C m2 c2] w λe w'=>e= .returned (.int .i64 3)∧Below w.heap.size w w':=by
 have HEQ:=hid heq;have HC5Y:=hid hyes;have HQ:=hid hq;clear heq hyes hq;have HX:=hid hx;have HP:=hid hp;have HB:=hid hb;have HZ:=hid hz;have HPZ:=hid hpz;have HZB:=hid hzb;have FM:=hid (refform_t xs A 56 c w hx hp hb (by decide) hc);rw[hf] at FM;have HT8:=hid (show((xs.drop 4).take 4).length=4∧Bytes ((xs.drop 4).take 4) from⟨by rw[List.length_take,List.length_drop];omega,bytes_take (bytes_drop hb 4) 4⟩);obtain⟨p2,hp2,hs8⟩:=slice_mid (P:=Tryz.prog) (t:=25) (e:=5) Tryz.underlying25 byte_size A 56 c 4 8 (by omega) (by omega);rw[show((4:Nat):Int)=4 from rfl,show((8:Nat):Int)=8 from rfl,show 8-4=4 from rfl] at hs8;have SP:=hid (λW (h:Sr W A xs)=>show Sr W p2 ((xs.drop 4).take 4) from(h.drop (p2:=p2) (n:=4) (λ_=>hp2 (by omega))).take 4);obtain⟨c8,hc8⟩:∃ x,c-4=x:=⟨_,rfl⟩;rw[hc8] at hs8;have CH:=hid (λW=>refchains_t i hi W);have SZ:=hid (λW=>refsize_t i hi W);have hp9:=kd_p i hi;have HWD:=hid (wid_of _ i hi hvi);have HLS:=hid (show lszN i=204+32 * (kd i).p from rfl);obtain⟨p,hpp⟩:∃ p,(kd i).p=p:=⟨_,rfl⟩;obtain⟨v,hv⟩:∃ v,(kd i).w=v:=⟨_,rfl⟩;obtain⟨N,hN⟩:∃ x,lszN i=x:=⟨_,rfl⟩;rw[hpp] at CH HLS hp9;rw[hv] at CH SZ HWD;rw[hN] at SZ HLS;have HN:=hid hN;have HPP:=hid hpp;have HV:=hid hv;have HVI:=hid hvi;have HII:=hid hi;have e1:IntKind.i64.wrap (32 * (p:Int))=32 * (p:Int):=IntWalk.i64_in _ (by omega);clear hx hp hb hz hpz hzb hf hp2 hc8 hpp hv hN hvi hi
 go_enter Tryz.func26,Tryz.ntmps26
 go_wp2_with fail
 refine FM.out.mono ?_
 rintro e w1 ⟨rfl,b1⟩
 have B1:=hid b1;clear b1 FM;go_wp2_with fail
 refine(refwidth_t ((xs.drop 4).take 4) p2 c8 w1 HT8.out.1 (SP.out _ (HP.out.below B1.out)) HT8.out.2).mono ?_
 rintro e w2 ⟨rfl,b2⟩
 have B2:=hid (B1.out.trans (b2.mono B1.out.size));rw[HWD.out];clear b2 B1 hs8 HWD;go_wp2_with fail
 refine(CH.out _).mono ?_
 rintro e w3 ⟨rfl,rfl⟩
 go_upto_region 5 with(fail)
 have t0:((m2:Int) != (N:Int))=false:=by rw[bne_eq_false_iff_eq];have h1:=HEQ.out;rw[HN.out] at h1;omega
 have hmp:m2=204+32 * p:=by have h1:=HEQ.out;have h2:=HLS.out;rw[HN.out] at h1;omega
 have HMP:=hid hmp;have hcz:=hz2;obtain⟨p3,hp3,hs3⟩:=slice_mid (P:=Tryz.prog) (t:=25) (e:=5) Tryz.underlying25 byte_size C m2 c2 (40+32 * p) (44+32 * p) (by omega) (by omega);rw[show((40+32 * p:Nat):Int)=4+(36+32 * (p:Int)) by omega,show((44+32 * p:Nat):Int)=8+(36+32 * (p:Int)) by omega,show 44+32 * p- (40+32 * p)=4 by omega] at hs3;have SP3:=hid (λW (h:Sr W C zs)=>show Sr W p3 ((zs.drop (40+32 * p)).take 4) from(h.drop (p2:=p3) (n:=40+32 * p) (λ_=>hp3 (by omega))).take 4);obtain⟨c3,hc3⟩:∃ x,c2- (40+32 * p)=x:=⟨_,rfl⟩;rw[hc3] at hs3;have HT3:=hid (show((zs.drop (40+32 * p)).take 4).length=4∧Bytes ((zs.drop (40+32 * p)).take 4) from⟨by rw[List.length_take,List.length_drop,HZ.out];omega,bytes_take (bytes_drop HZB.out _) 4⟩);have HC5:=hid (code_eq (zs.drop (40+32 * p)) 5 (by rw[List.length_drop,HZ.out];omega) (bytes_drop HZB.out _) (by omega));clear hmp hp3 hc3 hcz;have BD:=hid (B2.out.trans ((Below.refl _ _).drew.mono B2.out.size));have ew4:IntKind.i64.wrap (4+(36+32 * (p:Int)))=4+(36+32 * (p:Int)):=IntWalk.i64_in _ (by omega);have ew8:IntKind.i64.wrap (8+(36+32 * (p:Int)))=8+(36+32 * (p:Int)):=IntWalk.i64_in _ (by omega);rw[HPP.out] at HC5Y;obtain⟨bc,oc,hce,hcl,_⟩:=HPZ.out (by have h1:=HZ.out;have h2:=HMP.out;omega);subst hce;have RC:=hid (λX (h:Below w.heap.size w X)=>four_at (HPZ.out.below h) (by have h1:=HZ.out;have h2:=HMP.out;omega));have HQV:=hid (four_val zs (by have h1:=HZ.out;have h2:=HMP.out;omega));have m0g:0<m2:=by have h2:=HMP.out;omega
 have m1g:(1:Int)< (m2:Int):=by have h2:=HMP.out;omega
 have m2g:(2:Int)< (m2:Int):=by have h2:=HMP.out;omega
 have m3g:(3:Int)< (m2:Int):=by have h2:=HMP.out;omega
 obtain⟨s0,hs0⟩:∃ x,gt zs 0=x:=⟨_,rfl⟩;obtain⟨s1,hs1⟩:∃ x,gt zs 1=x:=⟨_,rfl⟩;obtain⟨s2,hs2⟩:∃ x,gt zs 2=x:=⟨_,rfl⟩;obtain⟨s3,hs3q⟩:∃ x,gt zs 3=x:=⟨_,rfl⟩;rw[hs0,hs1,hs2,hs3q] at RC HQV;clear hs0 hs1 hs2 hs3q hcl;refine wp_region_held (S:=λX=>Four X bc oc s0 s1 s2 s3) (by kernel_rfl) ?_;change wpAnyH _ _ _ _ _ _ _ _ w2.drew;obtain⟨V,hV⟩:∃ V,w2.drew=V:=⟨_,rfl⟩;rw[hV] at BD ⊢;clear hV B2;have r1:=RC.out _ BD.out;refine tka9 0 r1 ?_;refine tka9 1 r1 ?_;refine tka9 2 r1 ?_;refine rd9 3 λK hK=>?_
 go_simp;refine(SZ.out V).mono ?_
 rintro e w4 ⟨rfl,rfl⟩
 refine hK.out _ _ r1 (λ_=>?_);clear hK K;refine tka9 4 r1 ?_;refine tka9 5 r1 ?_;refine tka9 6 r1 ?_;refine tka9 7 r1 ?_;refine tka9 8 r1 ?_;refine tka9 9 r1 ?_;refine tka9 10 r1 ?_;refine tka9 11 r1 ?_;refine rd9 12 λK hK=>?_
 go_simp;refine(refnum_t 5 4 V (by decide) (by decide)).mono ?_
 rintro e w5 ⟨u,rfl,f5⟩
 obtain⟨A5,c5,rfl,hc5,s5,b5⟩:=fresh_op f5;rw[beN_length] at hc5 ⊢;have B5:=hid (BD.out.trans (b5.mono BD.out.size));have S5:=hid s5;have r5:=RC.out _ B5.out;clear f5 hc5 s5 b5 BD;refine hK.out _ _ r5 (λ_=>?_);clear hK K;refine rd9 13 λK hK=>?_
 go_simp;refine(same_texts ((zs.drop (40+32 * p)).take 4) (beN 5 4) p3 A5 4 4 c3 c5 w5 HT3.out.1 (beN_length _ _) (SP3.out _ (HPZ.out.below B5.out)) S5.out HT3.out.2 (beN_bytes _ _)).mono ?_
 rintro e w6 ⟨rfl,rfl⟩
 rw[show decide ((zs.drop (40+32 * p)).take 4=beN 5 4)=true from decide_eq_true (HC5.out.2 HC5Y.out)];refine hK.out _ _ r5 (λ_=>?_);clear hK K;refine tka9 14 r5 ?_;refine tka9 15 r5 ?_;refine tka9 16 r5 ?_;refine tka9 17 r5 ?_;refine tka9 18 r5 ?_;refine tk9 19 ?_ ?_ r5 ?_;rotate_left 1
 ·(intro w hS;have hs:=hS.1;clear hS;go_simp;try (with_reducible rfl))
 by_cases h0:s0=0
 ·have z0:((s0:Int) != 0)=false:=by rw[bne_eq_false_iff_eq];omega
  refine tka9 20 r5 ?_;refine tka9 21 r5 ?_;refine tka9 22 r5 ?_;refine tka9 23 r5 ?_;refine tka9 24 r5 ?_;refine tk9 25 ?_ ?_ r5 ?_;rotate_left 1
  ·(intro w hS;have hs:=hS.2.1;clear hS;go_simp;try (with_reducible rfl))
  by_cases h1:s1=0
  ·have z1:((s1:Int) != 0)=false:=by rw[bne_eq_false_iff_eq];omega
   refine tka9 26 r5 ?_;refine tka9 27 r5 ?_;refine tka9 28 r5 ?_;refine tka9 29 r5 ?_;refine tka9 30 r5 ?_;refine tk9 31 ?_ ?_ r5 ?_;rotate_left 1
   ·(intro w hS;have hs:=hS.2.2.1;clear hS;go_simp;try (with_reducible rfl))
   by_cases h2:s2=0
   ·have z2:((s2:Int) != 0)=false:=by rw[bne_eq_false_iff_eq];omega
    have z3:(32:Int)≤(s3:Int):=by have:=HQ.out;rw[HQV.out] at this;omega
    refine tka9 32 r5 ?_;refine tka9 33 r5 ?_;refine tka9 34 r5 ?_;refine tka9 35 r5 ?_;refine tka9 36 r5 ?_;refine tk9 37 ?_ ?_ r5 ?_;rotate_left 1
    ·(intro w hS;have hs:=hS.2.2.2;clear hS;go_simp;try (with_reducible rfl))
    refine tka9 38 r5 ?_;refine tka9 39 r5 ?_
    (refine wpAnyH_done (by kernel_rfl) ?_ _;go_simp;go_wp2_with fail;go_ret;exact⟨rfl,B5.out⟩)
   ·have z2:((s2:Int) != 0)=true:=by rw[bne_iff_ne];omega
    refine tka9 32 r5 ?_;refine tka9 33 r5 ?_;refine tka9 34 r5 ?_;refine tku9 35 r5 ?_;refine tku9 36 r5 ?_;refine tku9 37 r5 ?_;refine tku9 38 r5 ?_;refine tka9 39 r5 ?_
    (refine wpAnyH_done (by kernel_rfl) ?_ _;go_simp;go_wp2_with fail;go_ret;exact⟨rfl,B5.out⟩)
  ·have z1:((s1:Int) != 0)=true:=by rw[bne_iff_ne];omega
   refine tka9 26 r5 ?_;refine tka9 27 r5 ?_;refine tka9 28 r5 ?_;refine tku9 29 r5 ?_;refine tku9 30 r5 ?_;refine tku9 31 r5 ?_;refine tku9 32 r5 ?_;refine tka9 33 r5 ?_;refine tka9 34 r5 ?_;refine tku9 35 r5 ?_;refine tku9 36 r5 ?_;refine tku9 37 r5 ?_;refine tku9 38 r5 ?_;refine tka9 39 r5 ?_
   (refine wpAnyH_done (by kernel_rfl) ?_ _;go_simp;go_wp2_with fail;go_ret;exact⟨rfl,B5.out⟩)
 ·have z0:((s0:Int) != 0)=true:=by rw[bne_iff_ne];omega
  refine tka9 20 r5 ?_;refine tka9 21 r5 ?_;refine tka9 22 r5 ?_;refine tku9 23 r5 ?_;refine tku9 24 r5 ?_;refine tku9 25 r5 ?_;refine tku9 26 r5 ?_;refine tka9 27 r5 ?_;refine tka9 28 r5 ?_;refine tku9 29 r5 ?_;refine tku9 30 r5 ?_;refine tku9 31 r5 ?_;refine tku9 32 r5 ?_;refine tka9 33 r5 ?_;refine tka9 34 r5 ?_;refine tku9 35 r5 ?_;refine tku9 36 r5 ?_;refine tku9 37 r5 ?_;refine tku9 38 r5 ?_;refine tka9 39 r5 ?_
  (refine wpAnyH_done (by kernel_rfl) ?_ _;go_simp;go_wp2_with fail;go_ret;exact⟨rfl,B5.out⟩)
theorem and1_i64 (r:Nat) (hr:r<64):bits .and .i64 (r:Int) 1=((r % 2:Nat):Int):=by
 have h:∀ r:Nat,r<64→bits .and .i64 (r:Int) 1=((r % 2:Nat):Int):=by decide+kernel
 exact h r hr
def z16:List Nat:=List.replicate 16 0
set_option maxHeartbeats 8000000 in
theorem refver_t (ys:List Nat) (xs zs:List Nat) (i:Nat) (A B C:Option Addr) (c m1 c1 m2 c2:Nat) (w:World) (hx:xs.length=56) (hp:Sr w A xs) (hb:Bytes xs) (hc:56≤c) (hf:formN xs=true) (hi:i<4) (hvi:val ((xs.drop 4).take 4)=i+1) (hz:zs.length=m2) (hpz:Sr w C zs) (hzb:Bytes zs) (hz2:m2≤c2) (hml2:m2≤9223372036854775807) (heq:m2=lszN i) (hyes:val ((zs.drop (40+32 * (kd i).p)).take 4)=5) (hq:val (zs.take 4)<32) (hy:ys.length=m1) (hpy:Sr w B ys) (hyb:Bytes ys) (hy1:m1≤100000):
  Calls Tryz.prog 26 #[.slice A 56 c,.slice B m1 c1,.slice C m2 c2] w λe w'=>e= .returned (.int .i64 (verN xs ys zs:Nat))∧Below w.heap.size w w':=by
 have HEQ:=hid heq;have HC5Y:=hid hyes;have HQ:=hid hq;have HY:=hid hy;have HPY:=hid hpy;have HYB:=hid hyb;have HY1:=hid hy1;have HF':=hid hf;clear heq hyes hq hy hpy hyb hy1;have HX:=hid hx;have HP:=hid hp;have HB:=hid hb;have HZ:=hid hz;have HPZ:=hid hpz;have HZB:=hid hzb;have FM:=hid (refform_t xs A 56 c w hx hp hb (by decide) hc);rw[hf] at FM;have HT8:=hid (show((xs.drop 4).take 4).length=4∧Bytes ((xs.drop 4).take 4) from⟨by rw[List.length_take,List.length_drop];omega,bytes_take (bytes_drop hb 4) 4⟩);obtain⟨p2,hp2,hs8⟩:=slice_mid (P:=Tryz.prog) (t:=25) (e:=5) Tryz.underlying25 byte_size A 56 c 4 8 (by omega) (by omega);rw[show((4:Nat):Int)=4 from rfl,show((8:Nat):Int)=8 from rfl,show 8-4=4 from rfl] at hs8;have SP:=hid (λW (h:Sr W A xs)=>show Sr W p2 ((xs.drop 4).take 4) from(h.drop (p2:=p2) (n:=4) (λ_=>hp2 (by omega))).take 4);obtain⟨c8,hc8⟩:∃ x,c-4=x:=⟨_,rfl⟩;rw[hc8] at hs8;have CH:=hid (λW=>refchains_t i hi W);have SZ:=hid (λW=>refsize_t i hi W);have hp9:=kd_p i hi;have HWD:=hid (wid_of _ i hi hvi);have HLS:=hid (show lszN i=204+32 * (kd i).p from rfl);obtain⟨p,hpp⟩:∃ p,(kd i).p=p:=⟨_,rfl⟩;obtain⟨v,hv⟩:∃ v,(kd i).w=v:=⟨_,rfl⟩;obtain⟨N,hN⟩:∃ x,lszN i=x:=⟨_,rfl⟩;rw[hpp] at CH HLS hp9;rw[hv] at CH SZ HWD;rw[hN] at SZ HLS;have HN:=hid hN;have HPP:=hid hpp;have HV:=hid hv;have HVI:=hid hvi;have HII:=hid hi;have e1:IntKind.i64.wrap (32 * (p:Int))=32 * (p:Int):=IntWalk.i64_in _ (by omega);clear hx hp hb hz hpz hzb hf hp2 hc8 hpp hv hN hvi hi
 go_enter Tryz.func26,Tryz.ntmps26
 go_wp2_with fail
 refine FM.out.mono ?_
 rintro e w1 ⟨rfl,b1⟩
 have B1:=hid b1;clear b1 FM;go_wp2_with fail
 refine(refwidth_t ((xs.drop 4).take 4) p2 c8 w1 HT8.out.1 (SP.out _ (HP.out.below B1.out)) HT8.out.2).mono ?_
 rintro e w2 ⟨rfl,b2⟩
 have B2:=hid (B1.out.trans (b2.mono B1.out.size));rw[HWD.out];clear b2 B1 hs8 HWD;go_wp2_with fail
 refine(CH.out _).mono ?_
 rintro e w3 ⟨rfl,rfl⟩
 go_upto_region 5 with(fail)
 have t0:((m2:Int) != (N:Int))=false:=by rw[bne_eq_false_iff_eq];have h1:=HEQ.out;rw[HN.out] at h1;omega
 have hmp:m2=204+32 * p:=by have h1:=HEQ.out;have h2:=HLS.out;rw[HN.out] at h1;omega
 have HMP:=hid hmp;have hcz:=hz2;obtain⟨p3,hp3,hs3⟩:=slice_mid (P:=Tryz.prog) (t:=25) (e:=5) Tryz.underlying25 byte_size C m2 c2 (40+32 * p) (44+32 * p) (by omega) (by omega);rw[show((40+32 * p:Nat):Int)=4+(36+32 * (p:Int)) by omega,show((44+32 * p:Nat):Int)=8+(36+32 * (p:Int)) by omega,show 44+32 * p- (40+32 * p)=4 by omega] at hs3;have SP3:=hid (λW (h:Sr W C zs)=>show Sr W p3 ((zs.drop (40+32 * p)).take 4) from(h.drop (p2:=p3) (n:=40+32 * p) (λ_=>hp3 (by omega))).take 4);obtain⟨c3,hc3⟩:∃ x,c2- (40+32 * p)=x:=⟨_,rfl⟩;rw[hc3] at hs3;have HT3:=hid (show((zs.drop (40+32 * p)).take 4).length=4∧Bytes ((zs.drop (40+32 * p)).take 4) from⟨by rw[List.length_take,List.length_drop,HZ.out];omega,bytes_take (bytes_drop HZB.out _) 4⟩);have HC5:=hid (code_eq (zs.drop (40+32 * p)) 5 (by rw[List.length_drop,HZ.out];omega) (bytes_drop HZB.out _) (by omega));clear hmp hp3 hc3 hcz;have BD:=hid (B2.out.trans ((Below.refl _ _).drew.mono B2.out.size));have ew4:IntKind.i64.wrap (4+(36+32 * (p:Int)))=4+(36+32 * (p:Int)):=IntWalk.i64_in _ (by omega);have ew8:IntKind.i64.wrap (8+(36+32 * (p:Int)))=8+(36+32 * (p:Int)):=IntWalk.i64_in _ (by omega);rw[HPP.out] at HC5Y;obtain⟨bc,oc,hce,hcl,_⟩:=HPZ.out (by have h1:=HZ.out;have h2:=HMP.out;omega);subst hce;have RC:=hid (λX (h:Below w.heap.size w X)=>four_at (HPZ.out.below h) (by have h1:=HZ.out;have h2:=HMP.out;omega));have HQV:=hid (four_val zs (by have h1:=HZ.out;have h2:=HMP.out;omega));have m0g:0<m2:=by have h2:=HMP.out;omega
 have m1g:(1:Int)< (m2:Int):=by have h2:=HMP.out;omega
 have m2g:(2:Int)< (m2:Int):=by have h2:=HMP.out;omega
 have m3g:(3:Int)< (m2:Int):=by have h2:=HMP.out;omega
 obtain⟨s0,hs0⟩:∃ x,gt zs 0=x:=⟨_,rfl⟩;obtain⟨s1,hs1⟩:∃ x,gt zs 1=x:=⟨_,rfl⟩;obtain⟨s2,hs2⟩:∃ x,gt zs 2=x:=⟨_,rfl⟩;obtain⟨s3,hs3q⟩:∃ x,gt zs 3=x:=⟨_,rfl⟩;rw[hs0,hs1,hs2,hs3q] at RC HQV;clear hs0 hs1 hs2 hs3q hcl;refine wp_region_held (S:=λX=>Four X bc oc s0 s1 s2 s3) (by kernel_rfl) ?_;change wpAnyH _ _ _ _ _ _ _ _ w2.drew;obtain⟨V,hV⟩:∃ V,w2.drew=V:=⟨_,rfl⟩;rw[hV] at BD ⊢;clear hV B2;have r1:=RC.out _ BD.out;refine tka9 0 r1 ?_;refine tka9 1 r1 ?_;refine tka9 2 r1 ?_;refine rd9 3 λK hK=>?_
 go_simp;refine(SZ.out V).mono ?_
 rintro e w4 ⟨rfl,rfl⟩
 refine hK.out _ _ r1 (λ_=>?_);clear hK K;refine tka9 4 r1 ?_;refine tka9 5 r1 ?_;refine tka9 6 r1 ?_;refine tka9 7 r1 ?_;refine tka9 8 r1 ?_;refine tka9 9 r1 ?_;refine tka9 10 r1 ?_;refine tka9 11 r1 ?_;refine rd9 12 λK hK=>?_
 go_simp;refine(refnum_t 5 4 V (by decide) (by decide)).mono ?_
 rintro e w5 ⟨u,rfl,f5⟩
 obtain⟨A5,c5,rfl,hc5,s5,b5⟩:=fresh_op f5;rw[beN_length] at hc5 ⊢;have B5:=hid (BD.out.trans (b5.mono BD.out.size));have S5:=hid s5;have r5:=RC.out _ B5.out;clear f5 hc5 s5 b5 BD;refine hK.out _ _ r5 (λ_=>?_);clear hK K;refine rd9 13 λK hK=>?_
 go_simp;refine(same_texts ((zs.drop (40+32 * p)).take 4) (beN 5 4) p3 A5 4 4 c3 c5 w5 HT3.out.1 (beN_length _ _) (SP3.out _ (HPZ.out.below B5.out)) S5.out HT3.out.2 (beN_bytes _ _)).mono ?_
 rintro e w6 ⟨rfl,rfl⟩
 rw[show decide ((zs.drop (40+32 * p)).take 4=beN 5 4)=true from decide_eq_true (HC5.out.2 HC5Y.out)];refine hK.out _ _ r5 (λ_=>?_);clear hK K;refine tka9 14 r5 ?_;refine tka9 15 r5 ?_;refine tka9 16 r5 ?_;refine tka9 17 r5 ?_;refine tka9 18 r5 ?_;refine tk9 19 ?_ ?_ r5 ?_;rotate_left 1
 ·(intro w hS;have hs:=hS.1;clear hS;go_simp;try (with_reducible rfl))
 obtain⟨rfl,rfl,rfl,h3⟩:s0=0∧s1=0∧s2=0∧s3<32:=by have h1:=HQ.out;rw[HQV.out] at h1;omega
 have hq3:(s3:Int)<32:=by omega
 refine tka9 20 r5 ?_;refine tka9 21 r5 ?_;refine tka9 22 r5 ?_;refine tka9 23 r5 ?_;refine tka9 24 r5 ?_;refine tk9 25 ?_ ?_ r5 ?_;rotate_left 1
 ·(intro w hS;have hs:=hS.2.1;clear hS;go_simp;try (with_reducible rfl))
 refine tka9 26 r5 ?_;refine tka9 27 r5 ?_;refine tka9 28 r5 ?_;refine tka9 29 r5 ?_;refine tka9 30 r5 ?_;refine tk9 31 ?_ ?_ r5 ?_;rotate_left 1
 ·(intro w hS;have hs:=hS.2.2.1;clear hS;go_simp;try (with_reducible rfl))
 refine tka9 32 r5 ?_;refine tka9 33 r5 ?_;refine tka9 34 r5 ?_;refine tka9 35 r5 ?_;refine tka9 36 r5 ?_;refine tk9 37 ?_ ?_ r5 ?_;rotate_left 1
 ·(intro w hS;have hs:=hS.2.2.2;clear hS;go_simp;try (with_reducible rfl))
 refine tka9 38 r5 ?_;refine tka9 39 r5 ?_;refine wpAnyH_done (by kernel_rfl) ?_ _;go_simp;clear hs3 r5 r1 ew4 ew8 S5 SP3 HC5 HT3
 go_upto_region 8 with(fail)
 obtain⟨p4,hp4,hs4⟩:=slice_mid (P:=Tryz.prog) (t:=25) (e:=5) Tryz.underlying25 byte_size A 56 c 8 24 (by omega) (by omega);rw[show((8:Nat):Int)=8 from rfl,show((24:Nat):Int)=24 from rfl,show 24-8=16 from rfl] at hs4;have SP4:=hid (λW (h:Sr W A xs)=>show Sr W p4 ((xs.drop 8).take 16) from(h.drop (p2:=p4) (n:=8) (λ_=>hp4 (by omega))).take 16);have HI:=hid (show((xs.drop 8).take 16).length=16 by rw[List.length_take,List.length_drop,HX.out];rfl);have HIB:=hid (bytes_take (bytes_drop HB.out 8) 16);have HR:=hid (show((xs.drop 8).drop 16).length=32 by rw[List.length_drop,List.length_drop,HX.out]);have HVE:=hid (show verN xs ys zs=if lcandN ((xs.drop 8).take 16) i ys zs=some ((xs.drop 8).drop 16) then 0 else 3 by
  unfold verN;rw[if_pos HF'.out,HVI.out,Nat.add_sub_cancel])
 obtain⟨I,hIe⟩:∃ x,(xs.drop 8).take 16=x:=⟨_,rfl⟩;rw[hIe] at SP4 HI HIB HVE;obtain⟨c4,hc4⟩:∃ x,c-8=x:=⟨_,rfl⟩;rw[hc4] at hs4;clear hp4 hIe hc4;refine world_is (λY=>Blk Y w5.heap.size 44 (u8s z16)∧Below w5.heap.size w5 Y) ⟨Blk.new w5 _ (u8s z16),(Below.refl _ _).alloc (Nat.le_refl _) _⟩ ?_
 rintro Y ⟨x0,bx⟩
 have X0:=hid (show Blk Y.drew w5.heap.size 44 ([]++(u8s z16++[])) by rw[List.nil_append,List.append_nil];exact x0.drew);have BX:=hid bx.drew;have BW:=hid (B5.out.trans (BX.out.mono B5.out.size));clear x0 bx;refine wp_region_held (S:=λ_=>True) (by kernel_rfl) ?_;change wpAnyH _ _ _ _ _ _ _ _ Y.drew;obtain⟨V8,hV⟩:∃ V,Y.drew=V:=⟨_,rfl⟩;rw[hV] at X0 BX BW ⊢;clear hV;refine tka9 0 trivial ?_;refine tka9 1 trivial ?_;refine tka9 2 trivial ?_;refine rdw9 3 λK hK=>?_
 have HL1:=hid (show(u8s z16).length=(u8s I).length by rw[u8s_length,u8s_length,HI.out];rfl);have HL2:=hid (show(u8s I).length=16 by rw[u8s_length,HI.out]);refine wcopy_part (.tmp 67) (.tmp 69) 25 25 5 w5.heap.size 0 16 16 16 c4 16 (some ⟨w5.heap.size,0,none⟩) p4 44 [] (u8s z16) [] (u8s I) rfl Tryz.underlying25 byte_size X0.out rfl HL1.out HL2.out (by go_simp) (by go_simp) (λ_=>⟨rfl,(SP4.out _ (HP.out.below BW.out)).cells (by rw[HI.out];decide)⟩) (u8s_each _) HL2.out ?_;intro w8 a1 a2 a3;have I8:=hid (show Blk w8 w5.heap.size 44 (u8s I) by have:=a1.out;rwa [List.nil_append,List.append_nil] at this);have B8:=hid (B5.out.trans ((BX.out.trans (a2.out.below (B':=w5.heap.size) (Nat.le_refl _) BX.out.size)).mono B5.out.size));clear a1 a2 a3 X0 BX BW;refine hK.out _ _ trivial (λ_=>?_);clear hK K;refine wpAnyH_done (by kernel_rfl) ?_ _;go_simp;clear hs4 SP4 HL1 HL2;have hgi:=B5.out.size;obtain⟨gi,hgi2⟩:∃ g,w5.heap.size=g:=⟨_,rfl⟩;rw[hgi2] at I8 hgi ⊢;clear hgi2;have c8q:=(RC.out _ B8.out).2.2.2;have qw:IntKind.i64.wrap (s3:Int)=(s3:Int):=IntWalk.i64_in _ (by omega)
 go_upto_region 10 with(fail)
 clear c8q qw;obtain⟨p5,hp5,hs5⟩:=slice_mid (P:=Tryz.prog) (t:=25) (e:=5) Tryz.underlying25 byte_size (some ⟨bc,oc,none⟩) m2 c2 4 (40+32 * p) (by omega) (by have:=HMP.out;omega);rw[show((4:Nat):Int)=4 from rfl,show((40+32 * p:Nat):Int)=4+(36+32 * (p:Int)) by omega,show 40+32 * p-4=36+32 * p by omega] at hs5;have ew4:IntKind.i64.wrap (4+(36+32 * (p:Int)))=4+(36+32 * (p:Int)):=IntWalk.i64_in _ (by omega);have SP5:=hid (λW (h:Sr W (some ⟨bc,oc,none⟩) zs)=>show Sr W p5 ((zs.drop 4).take (36+32 * p)) from(h.drop (p2:=p5) (n:=4) (λ_=>hp5 (by have:=HMP.out;omega))).take (36+32 * p));obtain⟨c5q,hc5q⟩:∃ x,c2-4=x:=⟨_,rfl⟩;rw[hc5q] at hs5;have hcap:36+32 * p≤c5q:=by have:=HMP.out;omega
 have HL5:=hid (show((zs.drop 4).take (36+32 * p)).length=36+32 * p by rw[List.length_take,List.length_drop,HZ.out];have:=HMP.out;omega);have HB5:=hid (bytes_take (bytes_drop HZB.out 4) (36+32 * p));have hosN:osN i=36+32 * p:=by unfold osN;rw[HPP.out]
 have hq32:val (zs.take 4)=s3:=by rw[HQV.out];omega
 have LC:=hid (show lcandN I i ys zs=if val ((zs.drop 4).take 4)=(kd i).code then some (climbN I (32+s3) (leafV I (32+s3) (candN I s3 i ys ((zs.drop 4).take (36+32 * p)))) (zs.drop (44+32 * p)) 5) else none by
  unfold lcandN;rw[hosN,hq32,show 4+(36+32 * p)=40+32 * p by omega,show 8+(36+32 * p)=44+32 * p by omega,HZ.out,HC5Y.out]
  by_cases hk:val ((zs.drop 4).take 4)=(kd i).code
  ·rw[if_pos hk,if_pos ⟨HEQ.out,h3,rfl,hk⟩]
  ·rw[if_neg hk,if_neg (λh=>hk h.2.2.2)])
 have hcc:((zs.drop 4).take (36+32 * p)).take 4=(zs.drop 4).take 4:=by rw[List.take_take,Nat.min_eq_left (by omega)]
 obtain⟨KK,ee,hKL,hKB,hor,hcd⟩:∃ KK ee,KK.length=32∧Bytes KK∧((ee=0∧verN xs ys zs=if climbN I (32+s3) (leafV I (32+s3) KK) (zs.drop (44+32 * p)) 5=(xs.drop 8).drop 16 then 0 else 3)∨(ee=3∧verN xs ys zs=3))∧
   ∀ W,Below w.heap.size w W→Calls Tryz.prog 59 #[.agg (u8s I).toArray,.int .i64 (s3:Int),.int .i64 (v:Int),.slice B m1 c1,.slice p5 (36+32 * p) c5q] W λe w'=>e= .returned (.tuple #[.agg (u8s KK).toArray,.int .i64 ee])∧Below W.heap.size W w':=by
  by_cases hk:val ((zs.drop 4).take 4)=(kd i).code
  ·refine⟨candN I s3 i ys ((zs.drop 4).take (36+32 * p)),0,rfl,?_,.inl ⟨rfl,?_⟩,λW hW=>?_⟩
   ·exact pubOf_bytes _ _ _ HIB.out (catN_bytes _ _ λj hj=>(candE_ok I s3 i _ ((zs.drop 4).take (36+32 * p)) j HII.out HIB.out HB5.out (by rw[HL5.out];have:=HPP.out;omega) (by rw[digL_get i j hj];exact digN_le i j _)).2)
   ·rw[HVE.out,LC.out,if_pos hk]
    by_cases hr:climbN I (32+s3) (leafV I (32+s3) (candN I s3 i ys ((zs.drop 4).take (36+32 * p)))) (zs.drop (44+32 * p)) 5=(xs.drop 8).drop 16
    ·rw[if_pos hr,if_pos (by rw[hr])]
    ·rw[if_neg hr,if_neg (λh=>hr (Option.some.inj h))]
   ·rw[←HV.out];exact refcand_t I ((zs.drop 4).take (36+32 * p)) ys s3 i B p5 m1 c1 (36+32 * p) c5q W HI.out HIB.out (by omega) HII.out HY.out (HPY.out.below hW) HYB.out HY1.out HL5.out (SP5.out _ (HPZ.out.below hW)) HB5.out hcap (by rw[HPP.out]) (by rw[hcc];exact hk)
  ·refine⟨z32,3,rfl,sl_bytes (by decide),.inr ⟨rfl,?_⟩,λW hW=>?_⟩
   ·rw[HVE.out,LC.out,if_neg hk,if_neg (λh=>by cases h)]
   ·rw[←HV.out];exact refcand_code I ((zs.drop 4).take (36+32 * p)) s3 i B p5 m1 c1 (36+32 * p) c5q W HI.out HIB.out HII.out HL5.out (SP5.out _ (HPZ.out.below hW)) HB5.out hcap (by rw[HPP.out]) (by rw[hcc];exact hk)
 have HKL:=hid hKL;have HKB:=hid hKB;have HOR:=hid hor;have CD:=hid hcd;have YL:=hid (show(zs.drop (44+32 * p)).length=160 by rw[List.length_drop,HZ.out];have:=HMP.out;omega);have YB:=hid (bytes_drop HZB.out (44+32 * p));clear hp5 hc5q hcap hosN hq32 hcc hKL hKB hor hcd LC HL5 HB5 SP5;have RS:=hid (λX (h:Below w8.heap.size w8 X)=>range_of_blkA (I8.out.below h I8.out.lt))
 go_cut [11,12] (λs11 s12 wx=>∃ g:Nat,s11= .pointer (some ⟨g,0,none⟩)∧s12= .int .i64 ee∧w8.heap.size≤g∧Blk wx g 23 (u8s KK)∧Below w8.heap.size w8 wx)
 case first=>
  have SC0:=hid (show Below w8.heap.size w8 w8.drew from(Below.refl _ _).drew);have r1:=RS.out _ SC0.out;refine wp_region_held (S:=λX=>X.rangeAt gi 0 (u8s I)) (by kernel_rfl) ?_;change wpAnyH _ _ _ _ _ _ _ _ w8.drew;refine tkg9 0 (v:= .agg (u8s I).toArray) (yieldsIf_load_mid (by kernel_rfl) 44 (.tmp 9) rfl gi 0 (by go_simp) (u8s I) _ (λ_ h=>h) Tryz.underlying44 rfl (size16B _ HI.out)) r1 ?_;refine tka9 1 r1 ?_;refine tka9 2 r1 ?_;refine tka9 3 r1 ?_;refine tka9 4 r1 ?_;refine tka9 5 r1 ?_;refine tka9 6 r1 ?_;refine tka9 7 r1 ?_;clear r1;refine wpAnyH_ready (rs:=[8,12]) (by kernel_rfl) (by simp) ?_;refine AllReadyH.cons rfl (λK hK=>?_) (AllReadyH.cons rfl (λK hK=>?_) AllReadyH.nil)
  ·skip
   go_simp;refine(CD.out w8.drew (B8.out.trans (SC0.out.mono B8.out.size))).mono ?_
   rintro e wa ⟨rfl,b⟩
   have SCa:=hid (SC0.out.trans (b.mono SC0.out.size));have r:=RS.out _ SCa.out
   skip
   clear b;refine hK.out _ _ r (λ_=>?_);clear hK K;refine tka9 9 r ?_;refine tka9 10 r ?_;refine tka9 11 r ?_;refine rd9 12 λK hK=>?_
   go_simp;have b:=(Below.refl (wa).heap.size wa).alloc (Nat.le_refl _) (.cells (u8s z32).toArray 23);have SCb:=hid (SCa.out.trans (b.mono SCa.out.size));have D0:=hid (Blk.new wa 23 (u8s z32));have ds:=SCa.out.size;have r:=RS.out _ SCb.out;clear b;refine hK.out _ _ r (λ_=>?_);clear hK K;refine rdw9 13 λK hK=>?_
   refine wstore_part 23 (.tmp 11) (.tmp 85) wa.heap.size 0 23 [] (u8s z32) [] (u8s KK) rfl (by rw[List.nil_append,List.append_nil];exact D0.out) rfl (hash_len _ HKL.out) (size32 _ HKL.out) (u8s_one _) rfl rfl ?_;intro wz a1 a2 a3;have DZ0:=hid (show Blk wz wa.heap.size 23 (u8s KK) by have:=a1.out;rwa [List.nil_append,List.append_nil] at this);have CZ:=hid (show Below w8.heap.size w8 wz from SCb.out.trans (a2.out.below ds SCb.out.size));refine hK.out _ _ (RS.out _ CZ.out) (λ_=>?_);clear hK K;refine rd9 14 λK hK=>?_
   go_simp;refine hK.out _ _ (RS.out _ CZ.out) (λ_=>?_);clear hK K;refine wpAnyH_done (by kernel_rfl) ?_ _;go_simp;go_wp2_with fail
   go_meet
   exact⟨wa.heap.size,rfl,rfl,ds,DZ0.out,CZ.out⟩
  ·skip
   go_simp;have b:=(Below.refl (w8.drew).heap.size w8.drew).alloc (Nat.le_refl _) (.cells (u8s z32).toArray 23);have SCa:=hid (SC0.out.trans (b.mono SC0.out.size));have D0:=hid (Blk.new w8.drew 23 (u8s z32));have ds:=SC0.out.size;have r:=RS.out _ SCa.out;clear b;refine hK.out _ _ r (λ_=>?_);clear hK K;refine rd9 8 λK hK=>?_
   go_simp;refine(CD.out _ (B8.out.trans (SCa.out.mono B8.out.size))).mono ?_
   rintro e wb ⟨rfl,b⟩
   have SCb:=hid (SCa.out.trans (b.mono SCa.out.size));have r:=RS.out _ SCb.out;have D0:=hid (D0.out.below b D0.out.lt);clear b;refine hK.out _ _ r (λ_=>?_);clear hK K;refine tka9 9 r ?_;refine tka9 10 r ?_;refine tka9 11 r ?_;refine rdw9 13 λK hK=>?_
   refine wstore_part 23 (.tmp 11) (.tmp 85) w8.drew.heap.size 0 23 [] (u8s z32) [] (u8s KK) rfl (by rw[List.nil_append,List.append_nil];exact D0.out) rfl (hash_len _ HKL.out) (size32 _ HKL.out) (u8s_one _) rfl rfl ?_;intro wz a1 a2 a3;have DZ0:=hid (show Blk wz w8.drew.heap.size 23 (u8s KK) by have:=a1.out;rwa [List.nil_append,List.append_nil] at this);have CZ:=hid (show Below w8.heap.size w8 wz from SCb.out.trans (a2.out.below ds SCb.out.size));refine hK.out _ _ (RS.out _ CZ.out) (λ_=>?_);clear hK K;refine rd9 14 λK hK=>?_
   go_simp;refine hK.out _ _ (RS.out _ CZ.out) (λ_=>?_);clear hK K;refine wpAnyH_done (by kernel_rfl) ?_ _;go_simp;go_wp2_with fail
   go_meet
   exact⟨w8.drew.heap.size,rfl,rfl,ds,DZ0.out,CZ.out⟩
 case rest=>
  obtain⟨gk,rfl,rfl,hgk,hd,sc0⟩:=hcut;have B9:=hid (B8.out.trans (sc0.mono B8.out.size));have I9:=hid (I8.out.below sc0 I8.out.lt);have K9:=hid hd;clear hd sc0 RS CD;rcases HOR.out with⟨rfl,hve⟩ |⟨rfl,hve⟩
  ·have HVE2:=hid hve;have LEA:=hid (λW=>show Calls Tryz.prog 29 #[.agg (u8s I).toArray,.int .i64 ((s3:Int)+32),.agg (u8s KK).toArray] W λe w'=>e= .returned (.agg (u8s (leafV I (32+s3) KK)).toArray)∧Below W.heap.size W w' from by
    have h:=refleaf_t I KK (32+s3) W HI.out HIB.out HKL.out HKB.out (by omega);rw[show((32+s3:Nat):Int)=(s3:Int)+32 by omega] at h;exact h)
   have ea:IntKind.i64.wrap ((s3:Int)+32)=(s3:Int)+32:=IntWalk.i64_in _ (by omega);clear hve HVE
   go_wp2_with (first
    |((with_reducible refine load_blk 44 (.tmp 9) gi 44 (u8s I) _ rfl rfl ?_ Tryz.underlying44 ?_ ?_ ?_ ?_);exact I9.out;exact rfl;exact size16B _ HI.out;exact rfl)
    |((with_reducible refine load_blk 23 (.tmp 11) gk 23 (u8s KK) _ rfl rfl ?_ Tryz.underlying23 ?_ ?_ ?_ ?_);exact K9.out;exact rfl;exact size32 _ HKL.out;exact rfl))
   refine(LEA.out _).mono ?_
   rintro e w10 ⟨rfl,b10⟩
   have LL:=hid (show(leafV I (32+s3) KK).length=32 from rfl);have LB:=hid (leafV_bytes I (32+s3) KK HIB.out HKB.out);obtain⟨L0,hL0⟩:∃ x,leafV I (32+s3) KK=x:=⟨_,rfl⟩;rw[hL0] at HVE2 LL LB ⊢;have I10:=hid (I9.out.below b10 I9.out.lt);have B10:=hid (B9.out.trans (b10.mono B9.out.size));have R10:=hid (Blk.new w10 23 (u8s z32));clear b10 hL0 I9 B9 K9 LEA
   go_upto_region 15 with((with_reducible refine store_blk 23 (.tmp 14) (.tmp 95) w10.heap.size 23 (u8s z32) (u8s L0) rfl rfl ?_ ?_ ?_ ?_ ?_ ?_ ?_);exact R10.out;exact hash_len _ LL.out;exact size32 _ LL.out;exact u8s_one _;exact rfl;exact rfl)
   have bst:=hid (show Below w10.heap.size w10 ((w10.alloc (.cells (u8s z32).toArray 23)).setRow w10.heap.size (u8s L0).toArray) from below_setRow ((Below.refl _ _).alloc (Nat.le_refl _) _) (Nat.le_refl _) _);refine world_is (λW=>Blk W gi 44 (u8s I)∧Blk W w10.heap.size 23 (u8s L0)∧Below w.heap.size w W) ⟨I10.out.below bst.out I10.out.lt,R10.out.setRow _,B10.out.trans (bst.out.mono B10.out.size)⟩ ?_
   rintro W11 ⟨i0,r0,b0⟩
   clear ea;have hig:=I10.out.lt;have hwx:=B10.out.size;obtain⟨gx,hgx2⟩:∃ x,w10.heap.size=x:=⟨_,rfl⟩;rw[hgx2] at r0 hig hwx ⊢;have CL:=hid (λj=>climbN_length I (32+s3) L0 (zs.drop (44+32 * p)) LL.out j);have CB:=hid (λj=>climbN_bytes I (32+s3) L0 (zs.drop (44+32 * p)) HIB.out LB.out YB.out j);have CS:=hid (λj=>show climbN I (32+s3) L0 (zs.drop (44+32 * p)) (j+1)=stepX I ((32+s3) / 2 ^ j) (climbN I (32+s3) L0 (zs.drop (44+32 * p)) j) ((zs.drop (44+32 * p+32 * j)).take 32) from by rw[climbN,List.drop_drop]);have C0:=hid (show climbN I (32+s3) L0 (zs.drop (44+32 * p)) 0=L0 from rfl);obtain⟨C,hC⟩:∃ f:Nat→List Nat,∀ j,climbN I (32+s3) L0 (zs.drop (44+32 * p)) j=f j:=⟨λj=>climbN I (32+s3) L0 (zs.drop (44+32 * p)) j,λ_=>rfl⟩;simp only[hC] at CL CB CS C0 HVE2;rw[←C0.out] at r0;have I11:=hid i0;have R11:=hid r0;have B11:=hid b0;clear i0 r0 b0 hgx2 I10 B10 R10 bst hC;have ea8:IntKind.i64.wrap (8+(36+32 * (p:Int)))=8+(36+32 * (p:Int)):=IntWalk.i64_in _ (by omega)
   dsimp only[Act.put]
   go_upto_region 16 with(fail)
   clear ea8
   go_loopw [13,15] (λr x wr=>∃ j:Nat,j≤5∧r= .int .i64 (((32+s3) / 2 ^ j:Nat):Int)∧x= .int .i64 ((44+32 * p+32 * j:Nat):Int)∧Blk wr gi 44 (u8s I)∧Blk wr gx 23 (u8s (C j))∧Below w.heap.size w wr) (λr _ _=>(intOf r).toNat)
   case atStart=>exact⟨0,by omega,congrArg (Value.int .i64) (by simp;omega),congrArg (Value.int .i64) (by omega),I11.out,R11.out,B11.out⟩
   case round=>
    clear I11 R11 B11;obtain⟨j,hj,rfl,rfl,i0,r0,b0⟩:=hrel;have hr64:=vstep_lt s3 j h3
    by_cases hlt:j<5
    ·have hr1:=vstep_gt s3 h3 j hlt;have hnx:=hid (vstep_next s3 j);have CSj:=hid (CS.out j);have CLj:=hid (CL.out j);have CBj:=hid (CB.out j);obtain⟨r,hr⟩:∃ r,(32+s3) / 2 ^ j=r:=⟨_,rfl⟩;rw[hr] at hr64 hr1 hnx CSj ⊢;obtain⟨X,hX⟩:∃ x,C j=x:=⟨_,rfl⟩;rw[hX] at CSj CLj CBj r0;have HAT:=hid (show 44+32 * p+32 * j+32≤m2 from by have:=HMP.out;omega);have HNA:=hid (show 44+32 * p+32 * (j+1)=44+32 * p+32 * j+32 from by omega);obtain⟨a,ha⟩:∃ x,44+32 * p+32 * j=x:=⟨_,rfl⟩;rw[ha] at HAT HNA CSj ⊢;have hat:=HAT.out;have hm9:=HMP.out;obtain⟨p6,hp6,hs6⟩:=slice_mid (P:=Tryz.prog) (t:=25) (e:=5) Tryz.underlying25 byte_size (some ⟨bc,oc,none⟩) m2 c2 a (a+32) (by omega) (by omega);rw[show((a+32:Nat):Int)=(a:Int)+32 by omega,show a+32-a=32 by omega] at hs6;have SP6:=hid (λW (h:Sr W (some ⟨bc,oc,none⟩) zs)=>show Sr W p6 ((zs.drop a).take 32) from(h.drop (p2:=p6) (n:=a) (λ_=>hp6 (by omega))).take 32);obtain⟨c6,hc6⟩:∃ x,c2-a=x:=⟨_,rfl⟩;rw[hc6] at hs6;have HTL:=hid (show((zs.drop a).take 32).length=32 by rw[List.length_take,List.length_drop,HZ.out];omega);have HTB:=hid (bytes_take (bytes_drop HZB.out a) 32);obtain⟨T,hT⟩:∃ x,(zs.drop a).take 32=x:=⟨_,rfl⟩;rw[hT] at CSj SP6 HTL HTB;have e32:IntKind.i64.wrap ((a:Int)+32)=(a:Int)+32:=IntWalk.i64_in _ (by omega);have I3:=hid i0;have R3:=hid r0;have B3:=hid b0;have r1:(1:Int)< (r:Int):=by omega
     have r2:(r:Int)<64:=by omega
     clear i0 r0 b0 hr hX ha hp6 hc6 hT hm9
     go_upto_region 19 with(fail)
     refine world_is (λY=>Blk Y wr.heap.size 23 (u8s z32)∧Below wr.heap.size wr Y) ⟨Blk.new wr _ (u8s z32),(Below.refl _ _).alloc (Nat.le_refl _) _⟩ ?_
     rintro Y ⟨x0,bx⟩
     have X0:=hid (show Blk Y.drew wr.heap.size 23 ([]++(u8s z32++[])) by rw[List.nil_append,List.append_nil];exact x0.drew);have BX:=hid bx.drew;clear x0 bx;refine wp_region_held (S:=λ_=>True) (by kernel_rfl) ?_;change wpAnyH _ _ _ _ _ _ _ _ Y.drew;obtain⟨V9,hV⟩:∃ V,Y.drew=V:=⟨_,rfl⟩;rw[hV] at X0 BX ⊢;clear hV;refine tka9 0 trivial ?_;refine tka9 1 trivial ?_;refine tka9 2 trivial ?_;refine tka9 3 trivial ?_;refine tka9 4 trivial ?_;refine tka9 5 trivial ?_;refine rdw9 6 λK hK=>?_
     have HL1:=hid (show(u8s z32).length=(u8s T).length by rw[u8s_length,u8s_length,HTL.out];rfl);have HL2:=hid (show(u8s T).length=32 by rw[u8s_length,HTL.out]);refine wcopy_part (.tmp 102) (.tmp 107) 25 25 5 wr.heap.size 0 32 32 32 c6 32 (some ⟨wr.heap.size,0,none⟩) p6 23 [] (u8s z32) [] (u8s T) rfl Tryz.underlying25 byte_size X0.out rfl HL1.out HL2.out (by go_simp) (by go_simp) (λ_=>⟨rfl,(SP6.out _ (HPZ.out.below (B3.out.trans (BX.out.mono B3.out.size)))).cells (by rw[HTL.out];decide)⟩) (u8s_each _) HL2.out ?_;intro w3 a1 a2 a3;have T3:=hid (show Blk w3 wr.heap.size 23 (u8s T) by have:=a1.out;rwa [List.nil_append,List.append_nil] at this);have BX3:=hid (BX.out.trans (a2.out.below (B':=wr.heap.size) (Nat.le_refl _) BX.out.size));clear a1 a2 a3 X0 BX;refine hK.out _ _ trivial (λ_=>?_);clear hK K;refine wpAnyH_done (by kernel_rfl) ?_ _;go_simp;clear hs6 SP6 HL1 HL2;have I4:=hid (I3.out.below BX3.out I3.out.lt);have R4:=hid (R3.out.below BX3.out R3.out.lt);have B4:=hid (B3.out.trans (BX3.out.mono B3.out.size));have hgr:=R3.out.lt;clear I3 R3 B3 BX3;obtain⟨gy,hgy⟩:∃ x,wr.heap.size=x:=⟨_,rfl⟩;rw[hgy] at T3 hgr ⊢;clear hgy;obtain⟨hh,hhe⟩:∃ x,r / 2=x:=⟨_,rfl⟩;have ed:((r:Int)).tdiv 2=(hh:Int):=by rw[Int.tdiv_eq_ediv_of_nonneg (by omega)];omega
     have hh9:hh<1000:=by omega
     by_cases hodd:r % 2=1
     ·have tm:bits .and .i64 (r:Int) 1=1:=by rw[and1_i64 r hr64,hodd];rfl
      go_wp2_with (first
       |((with_reducible refine load_blk 44 (.tmp 9) gi 44 (u8s I) _ rfl rfl ?_ Tryz.underlying44 ?_ ?_ ?_ ?_);exact I4.out;exact rfl;exact size16B _ HI.out;exact rfl)
       |((with_reducible refine load_blk 23 (.tmp 14) gx 23 (u8s X) _ rfl rfl ?_ Tryz.underlying23 ?_ ?_ ?_ ?_);exact R4.out;exact rfl;exact size32 _ CLj.out;exact rfl)
       |((with_reducible refine load_blk 23 (.tmp 16) gy 23 (u8s T) _ rfl rfl ?_ Tryz.underlying23 ?_ ?_ ?_ ?_);exact T3.out;exact rfl;exact size32 _ HTL.out;exact rfl))
      refine(refinner_t I T X hh _ HI.out HIB.out HTL.out HTB.out CLj.out CBj.out hh9).mono ?_
      rintro e w5' ⟨rfl,b5⟩
      rw[show innerV I hh T X=C (j+1) from by rw[CSj.out];unfold stepX;rw[if_pos hodd];rw[hhe]];have I5:=hid (I4.out.below b5 I4.out.lt);have R5:=hid (R4.out.below b5 R4.out.lt);have B6:=hid (B4.out.trans (b5.mono B4.out.size));have CLn:=hid (CL.out (j+1));obtain⟨M,hM⟩:∃ x,C (j+1)=x:=⟨_,rfl⟩;rw[hM] at CLn ⊢;have HMM:=hid hM;clear b5 I4 R4 B4 T3 hM
      go_wp2_with ((with_reducible refine store_blk 23 (.tmp 14) (.tmp 117) gx 23 (u8s X) (u8s M) rfl rfl ?_ ?_ ?_ ?_ ?_ ?_ ?_);exact R5.out;exact(by rw[u8s_length,u8s_length,CLj.out,CLn.out]);exact size32 _ CLn.out;exact u8s_one _;exact rfl;exact rfl)
      go_roundw
      case rel=>
       refine⟨j+1,by omega,by rw[←hnx.out,hhe],?_,I5.out.setRow_far (by omega) _,by rw[HMM.out];exact R5.out.setRow _,below_setRow B6.out (by omega) _⟩;rw[HNA.out];exact congrArg (Value.int .i64) (by omega)
      case measure=>simp[intOf];omega
     ·have tm:bits .and .i64 (r:Int) 1=0:=by rw[and1_i64 r hr64];omega
      go_wp2_with (first
       |((with_reducible refine load_blk 44 (.tmp 9) gi 44 (u8s I) _ rfl rfl ?_ Tryz.underlying44 ?_ ?_ ?_ ?_);exact I4.out;exact rfl;exact size16B _ HI.out;exact rfl)
       |((with_reducible refine load_blk 23 (.tmp 14) gx 23 (u8s X) _ rfl rfl ?_ Tryz.underlying23 ?_ ?_ ?_ ?_);exact R4.out;exact rfl;exact size32 _ CLj.out;exact rfl)
       |((with_reducible refine load_blk 23 (.tmp 16) gy 23 (u8s T) _ rfl rfl ?_ Tryz.underlying23 ?_ ?_ ?_ ?_);exact T3.out;exact rfl;exact size32 _ HTL.out;exact rfl))
      refine(refinner_t I X T hh _ HI.out HIB.out CLj.out CBj.out HTL.out HTB.out hh9).mono ?_
      rintro e w5' ⟨rfl,b5⟩
      rw[show innerV I hh X T=C (j+1) from by rw[CSj.out];unfold stepX;rw[if_neg hodd];rw[hhe]];have I5:=hid (I4.out.below b5 I4.out.lt);have R5:=hid (R4.out.below b5 R4.out.lt);have B6:=hid (B4.out.trans (b5.mono B4.out.size));have CLn:=hid (CL.out (j+1));obtain⟨M,hM⟩:∃ x,C (j+1)=x:=⟨_,rfl⟩;rw[hM] at CLn ⊢;have HMM:=hid hM;clear b5 I4 R4 B4 T3 hM
      go_wp2_with ((with_reducible refine store_blk 23 (.tmp 14) (.tmp 123) gx 23 (u8s X) (u8s M) rfl rfl ?_ ?_ ?_ ?_ ?_ ?_ ?_);exact R5.out;exact(by rw[u8s_length,u8s_length,CLj.out,CLn.out]);exact size32 _ CLn.out;exact u8s_one _;exact rfl;exact rfl)
      go_roundw
      case rel=>
       refine⟨j+1,by omega,by rw[←hnx.out,hhe],?_,I5.out.setRow_far (by omega) _,by rw[HMM.out];exact R5.out.setRow _,below_setRow B6.out (by omega) _⟩;rw[HNA.out];exact congrArg (Value.int .i64) (by omega)
      case measure=>simp[intOf];omega
    ·obtain rfl:j=5:=by omega
     rw[vstep_end s3 h3];have I3:=hid i0;have R3:=hid r0;have B3:=hid b0;clear i0 r0 b0;obtain⟨p7,hp7,hs7⟩:=slice_low (P:=Tryz.prog) (t:=25) (e:=5) Tryz.underlying25 byte_size A 56 c .i64 24 (by omega) (by omega);rw[show((24:Nat):Int)=24 from rfl,show 56-24=32 from rfl] at hs7;have SP7:=hid (λW (h:Sr W A xs)=>show Sr W p7 ((xs.drop 8).drop 16) from by
      have h2:=h.drop (p2:=p7) (n:=24) (λ_=>hp7 (by omega))
      rwa [List.drop_drop])
     obtain⟨c7,hc7⟩:∃ x,c-24=x:=⟨_,rfl⟩;rw[hc7] at hs7;have HRL:=hid (show((xs.drop 8).drop 16).length=32 by rw[List.length_drop,List.length_drop,HX.out]);have HRB:=hid (bytes_drop (bytes_drop HB.out 8) 16);have CL5:=hid (CL.out 5);have CB5:=hid (CB.out 5);clear hp7 hc7
     go_upto_region 24 with(fail)
     have SG:=hid (Sr.of_blk (xs:=C 5) (rest:=[]) R3.out.drew (by rw[List.append_nil]));have BD:=hid B3.out.drew;refine wp_region_held (S:=λ_=>True) (by kernel_rfl) ?_;change wpAnyH _ _ _ _ _ _ _ _ wr.drew;obtain⟨V9,hV⟩:∃ V,wr.drew=V:=⟨_,rfl⟩;rw[hV] at SG BD ⊢;clear hV;refine tka9 0 trivial ?_;refine tka9 1 trivial ?_;refine tka9 2 trivial ?_;refine rd9 3 λK hK=>?_
     go_simp;refine(same_texts (C 5) ((xs.drop 8).drop 16) (some ⟨gx,0,none⟩) p7 32 32 32 c7 V9 CL5.out HRL.out SG.out (SP7.out _ (HP.out.below BD.out)) CB5.out HRB.out).mono ?_
     rintro e w12 ⟨rfl,rfl⟩
     by_cases heq:C 5=(xs.drop 8).drop 16
     ·have HE:=hid (show verN xs ys zs=0 by rw[HVE2.out,if_pos heq]);rw[decide_eq_true heq];refine hK.out _ _ trivial (λ_=>?_);clear hK K;refine tka9 4 trivial ?_;refine wpAnyH_done (by kernel_rfl) ?_ _;go_simp;go_wp2_with fail
      go_ret;exact⟨by rw[HE.out];rfl,BD.out⟩
     ·have HE:=hid (show verN xs ys zs=3 by rw[HVE2.out,if_neg heq]);rw[decide_eq_false heq];refine hK.out _ _ trivial (λ_=>?_);clear hK K;refine tka9 4 trivial ?_;refine wpAnyH_done (by kernel_rfl) ?_ _;go_simp;go_wp2_with fail
      go_ret;exact⟨by rw[HE.out];rfl,BD.out⟩
  ·have HVE2:=hid hve;clear hve;go_wp2_with fail
   go_ret;exact⟨by rw[HVE2.out];rfl,B9.out⟩
theorem refver_any (xs ys zs:List Nat) (A B C:Option Addr) (m c m1 c1 m2 c2:Nat) (w:World) (hx:xs.length=m) (hp:Sr w A xs) (hb:Bytes xs) (hc:m≤c) (hml:m≤9223372036854775807) (hy:ys.length=m1) (hpy:Sr w B ys) (hyb:Bytes ys) (hy1:m1≤100000) (hz:zs.length=m2) (hpz:Sr w C zs) (hzb:Bytes zs) (hz2:m2≤c2) (hml2:m2≤9223372036854775807):
  Calls Tryz.prog 26 #[.slice A m c,.slice B m1 c1,.slice C m2 c2] w λe w'=>e= .returned (.int .i64 (verN xs ys zs:Nat))∧Below w.heap.size w w':=by
 cases hf:formN xs with
 |false=>
  refine(refver_bad xs A B C m c m1 c1 m2 c2 w hx hp hb hml hc hf).mono ?_
  rintro e w' ⟨rfl,b⟩
  exact⟨by unfold verN;rw[hf];rfl,b⟩
 |true=>
  have h4:=of_decide_eq_true (show decide _=true from hf);obtain rfl:m=56:=by rw[←hx];exact h4.1
  obtain⟨i,hi⟩:∃ i,val ((xs.drop 4).take 4)=i+1:=⟨val ((xs.drop 4).take 4) -1,by have:=h4.2.2.1;omega⟩;have hi4:i<4:=by have:=h4.2.2.2;omega
  have hv:verN xs ys zs=if lcandN ((xs.drop 8).take 16) i ys zs=some ((xs.drop 8).drop 16) then 0 else 3:=by unfold verN;rw[if_pos hf,hi,Nat.add_sub_cancel]
  have hno:(¬ (zs.length=lszN i∧val (zs.take 4)<32∧val ((zs.drop (4+osN i)).take 4)=5∧val ((zs.drop 4).take 4)=(kd i).code))→verN xs ys zs=3:=λh=>by
   rw[hv];unfold lcandN;rw[if_neg h,if_neg (λh=>by cases h)]
  have h40:4+osN i=40+32 * (kd i).p:=by unfold osN;omega
  by_cases h1:m2=lszN i
  ·by_cases h2:val ((zs.drop (40+32 * (kd i).p)).take 4)=5
   ·by_cases h3:val (zs.take 4)<32
    ·exact refver_t ys xs zs i A B C c m1 c1 m2 c2 w hx hp hb hc hf hi4 hi hz hpz hzb hz2 hml2 h1 h2 h3 hy hpy hyb hy1
    ·refine(refver_q xs zs i A B C c m1 c1 m2 c2 w hx hp hb hc hf hi4 hi hz hpz hzb hz2 hml2 h1 h2 (by omega)).mono ?_
     rintro e w' ⟨rfl,b⟩
     exact⟨by rw[hno (λh=>h3 h.2.1)];rfl,b⟩
   ·refine(refver_form xs zs i A B C c m1 c1 m2 c2 w hx hp hb hc hf hi4 hi hz hpz hzb hz2 hml2 h1 h2).mono ?_
    rintro e w' ⟨rfl,b⟩
    exact⟨by rw[hno (λh=>h2 (by rw[←h40];exact h.2.2.1))];rfl,b⟩
  ·refine(refver_len xs zs i A B C c m1 c1 m2 c2 w hx hp hb hc hf hi4 hi hz hpz hzb hz2 hml2 h1).mono ?_
   rintro e w' ⟨rfl,b⟩
   exact⟨by rw[hno (λh=>h1 (by rw[←hz];exact h.1))];rfl,b⟩
end Go.Proofs.YtjlophplcmidlaaGreatDoor
