/-
  THE REFERENCE OF CHAPTER 4
-/
import Derived.Test.YtjlophplcmidlaaGreatDoorAd32
import Derived.Test.YtjlophplcmidlaaGreatDoorTk
open Go.Lib (hid)
set_option maxRecDepth 100000
namespace Go.Proofs.YtjlophplcmidlaaGreatDoor
open Go Go.RowKit Sh
theorem cat_leaf (I L:List Nat) (q:Nat) (A B P:Option Addr) (a b c:Nat):catX [⟨A,a,frontN I q⟩,⟨B,b,[130,130]⟩,⟨P,c,L⟩]=headN I q 33410++L:=by
 simp[catX,headN,frontN,show beN 33410 2=[130,130] from by decide]
theorem cat_inner (I L R:List Nat) (q:Nat) (A B P S:Option Addr) (a b c d:Nat):catX [⟨A,a,frontN I q⟩,⟨B,b,[131,131]⟩,⟨P,c,L⟩,⟨S,d,R⟩]=headN I q 33667++L++R:=by
 simp[catX,headN,frontN,show beN 33667 2=[131,131] from by decide]
theorem range_of_blkA {w:World} {g:Nat} {t:TypeId} {cs:List Value} (h:Blk w g t cs):w.rangeAt g 0 cs:=by
 have:=range_of (A:=[]) (M:=cs) (C:=[]) (g:=g) (t:=t) (w:=w) (by simpa using h);exact this
theorem size16B (l:List Nat) (h:l.length=16):(Tryz.prog.info? 44).map (·.size)=some (u8s l).length:=by
 rw[u8s_length,h]
 kernel_rfl
set_option maxHeartbeats 4000000 in
theorem refleaf_t (I Z:List Nat) (r:Nat) (w:World) (hI:I.length=16) (hIb:Bytes I) (hZ:Z.length=32) (hZb:Bytes Z) (hr:r<1000):
  Calls Tryz.prog 29 #[.agg (u8s I).toArray,.int .i64 (r:Int),.agg (u8s Z).toArray] w λe w'=>e= .returned (.agg (u8s (leafV I r Z)).toArray)∧Below w.heap.size w w':=by
 have HI:=hid hI;have HIB:=hid hIb;have HQ:=hid hr;have HZ:=hid hZ;have HZB:=hid hZb;clear hI hIb hr hZ hZb
 go_enter Tryz.func29,Tryz.ntmps29
 go_upto_region 1 with(fail)
 refine world_is (λW=>Blk W (w.heap.size) 44 (u8s I)∧Blk W (w.heap.size+1) 23 (u8s Z)∧Blk W (w.heap.size+1+1) 23 (u8s z32)∧Below w.heap.size w W) ⟨(((blk_at (w:=w) (g:=w.heap.size) (by simp) (.cells (u8s I).toArray 44) 44 (u8s I)).alloc _).alloc _),((blk_at (w:=(w.alloc (.cells (u8s I).toArray 44))) (g:=w.heap.size+1) (by simp) (.cells (u8s Z).toArray 23) 23 (u8s Z)).alloc _),(blk_at (w:=((w.alloc (.cells (u8s I).toArray 44)).alloc (.cells (u8s Z).toArray 23))) (g:=w.heap.size+1+1) (by simp) (.cells (u8s z32).toArray 23) 23 (u8s z32)),((((Below.refl w.heap.size w).alloc (by simp<;>omega) _).alloc (by simp<;>omega) _).alloc (by simp<;>omega) _)⟩ ?_
 rintro W ⟨k0,k1,k2,bw⟩
 have SEC0:=hid k0.drew;have H1:=hid k1.drew;have R0:=hid k2.drew;have B0:=hid bw.drew;have RS:=hid (λ(X:World) (h:Below W.drew.heap.size W.drew X)=>range_of_blkA (SEC0.out.below h SEC0.out.lt));have C0:=hid (Below.refl W.drew.heap.size W.drew);have r1:=RS.out _ C0.out;clear k0 k1 k2 bw;refine wp_region_held (S:=λX=>X.rangeAt w.heap.size 0 (u8s I)) (by kernel_rfl) ?_;change wpAnyH _ _ _ _ _ _ _ _ W.drew
 generalize W.drew=V at *
 refine tkg9 0 (v:= .agg (u8s I).toArray) (yieldsIf_load_mid (by kernel_rfl) 44 (.tmp 3) rfl w.heap.size 0 (by go_simp) (u8s I) _ (λ_ h=>h) Tryz.underlying44 rfl (size16B _ HI.out)) r1 ?_;refine tka9 1 r1 ?_;refine tka9 4 r1 ?_;clear r1;refine wpAnyH_ready (rs:=[2,3]) (by kernel_rfl) (by simp) ?_;refine AllReadyH.cons rfl (λK hK=>?_) (AllReadyH.cons rfl (λK hK=>?_) AllReadyH.nil)
 ·skip
  go_simp;refine(front_t I r _ HI.out HQ.out).mono ?_
  rintro e wa ⟨v,rfl,f1⟩
  obtain⟨A,a,rfl,ha,s1,bq⟩:=fresh_op f1;rw[frontN_length I r HI.out] at ha ⊢;have S1:=hid s1;have Ca:=hid (C0.out.trans (bq.mono C0.out.size))
  skip
  clear f1 ha s1 bq;refine hK.out _ _ (RS.out _ Ca.out) (λ_=>?_);clear hK K;refine rd9 3 λK hK=>?_
  go_simp;have bq:=(Below.refl (wa).heap.size wa).alloc (Nat.le_refl _) (.cells #[.int .u8 130,.int .u8 130] 5);have S3:=hid (show Sr ((wa).alloc (.cells #[.int .u8 130,.int .u8 130] 5)) (some ⟨(wa).heap.size,0,none⟩) [130,130] from Sr.made [130,130] wa 5 (0,0));have Cb:=hid (Ca.out.trans (bq.mono Ca.out.size));have S1':=hid (S1.out.below bq);clear S1;have S1:=S1';clear S1';obtain⟨g7,hg7⟩:∃ g,(wa).heap.size=g:=⟨_,rfl⟩;rw[hg7] at S3 ⊢;clear bq hg7;refine hK.out _ _ (RS.out _ Cb.out) (λ_=>?_);clear hK K;refine rd9 5 λK hK=>?_
  go_simp;have bq:=(Below.refl ((wa.alloc (.cells #[.int .u8 130,.int .u8 130] 5))).heap.size (wa.alloc (.cells #[.int .u8 130,.int .u8 130] 5))).alloc (Nat.le_refl _) (.cells (partsV [⟨A,a,frontN I r⟩,⟨some ⟨g7,0,none⟩,2,[130,130]⟩,⟨some ⟨w.heap.size+1,0,none⟩,32,Z⟩]).toArray 25);have B9:=hid (Cb.out.trans (bq.mono Cb.out.size));have SX:=hid (show ∀ x∈([⟨A,a,frontN I r⟩,⟨some ⟨g7,0,none⟩,2,[130,130]⟩,⟨some ⟨w.heap.size+1,0,none⟩,32,Z⟩]:List Part),Sr (((wa.alloc (.cells #[.int .u8 130,.int .u8 130] 5))).alloc (.cells (partsV [⟨A,a,frontN I r⟩,⟨some ⟨g7,0,none⟩,2,[130,130]⟩,⟨some ⟨w.heap.size+1,0,none⟩,32,Z⟩]).toArray 25)) x.A x.X by
   intro y hy;simp only[List.mem_cons,List.not_mem_nil,or_false] at hy;rcases hy with rfl |rfl |rfl
   ·exact S1.out.below bq
   ·exact S3.out.below bq
   ·exact Sr.of_blk (xs:=Z) (rest:=[]) ((H1.out.below Cb.out H1.out.lt).below bq (H1.out.below Cb.out H1.out.lt).lt) (by rw[List.append_nil]))
  have HPV:=hid (show partsV [⟨A,a,frontN I r⟩,⟨some ⟨g7,0,none⟩,2,[130,130]⟩,⟨some ⟨w.heap.size+1,0,none⟩,32,Z⟩]=[.slice A 20 a,.slice (some ⟨g7,0,none⟩) 2 2,.slice (some ⟨w.heap.size+1,0,none⟩) 32 32] by simp only[partsV,List.map_cons,List.map_nil,frontN_length I r HI.out,HZ.out];rfl);have BKP:=hid (blk_at (w:=(wa.alloc (.cells #[.int .u8 130,.int .u8 130] 5))) (g:=wa.heap.size+1) (by simp) (.cells (partsV [⟨A,a,frontN I r⟩,⟨some ⟨g7,0,none⟩,2,[130,130]⟩,⟨some ⟨w.heap.size+1,0,none⟩,32,Z⟩]).toArray 25) 25 (partsV [⟨A,a,frontN I r⟩,⟨some ⟨g7,0,none⟩,2,[130,130]⟩,⟨some ⟨w.heap.size+1,0,none⟩,32,Z⟩]));rw[HPV.out] at B9 SX BKP;clear bq;refine hK.out _ _ (RS.out _ B9.out) (λ_=>?_);clear hK K;refine rd9 6 λK hK=>?_
  go_simp;refine(cat_t [⟨A,a,frontN I r⟩,⟨some ⟨g7,0,none⟩,2,[130,130]⟩,⟨some ⟨w.heap.size+1,0,none⟩,32,Z⟩] (wa.heap.size+1) 3 3 25 _ rfl ?_ ?_ ?_ (by decide)).mono ?_
  ·rw[HPV.out];exact BKP.out
  ·exact SX.out
  ·rw[cat_leaf];simp only[List.length_append,headN_length I r _ HI.out,HZ.out];decide
  rintro e wc ⟨vc,rfl,fc⟩
  obtain⟨Ac,cc,rfl,hcc,src,bc⟩:=fresh_op fc;have BC:=hid (B9.out.trans (bc.mono B9.out.size));have SC:=hid src;clear fc hcc src bc;have HCE:=hid (cat_leaf I Z r A (some ⟨g7,0,none⟩) (some ⟨w.heap.size+1,0,none⟩) a 2 32);obtain⟨T,hT⟩:∃ T,catX [⟨A,a,frontN I r⟩,⟨some ⟨g7,0,none⟩,2,[130,130]⟩,⟨some ⟨w.heap.size+1,0,none⟩,32,Z⟩]=T:=⟨_,rfl⟩;rw[hT] at SC HCE ⊢;clear hT;have HTB:=hid (show Bytes T∧T.length≤200 by rw[HCE.out];exact⟨app_bytes (headN_bytes _ _ _ HIB.out) HZB.out,by simp only[List.length_append,headN_length I r _ HI.out,HZ.out];decide⟩);refine hK.out _ _ (RS.out _ BC.out) (λ_=>?_);clear hK K;refine rd9 7 λK hK=>?_
  go_simp;refine(refsum_t T Ac T.length cc wc rfl SC.out HTB.out.1 (by have:=HTB.out.2;omega)).mono ?_
  rintro e wd ⟨rfl,bd⟩
  have BD:=hid (BC.out.trans (bd.mono BC.out.size));have HSL:=hid (show(sum T).length=32 from rfl);have HE:=hid (show sum T=leafV I r Z by rw[HCE.out];rfl);rw[HE.out] at HSL ⊢;obtain⟨S,hS⟩:∃ S,leafV I r Z=S:=⟨_,rfl⟩;rw[hS] at HSL ⊢;have HSS:=hid hS;clear bd hS;refine hK.out _ _ (RS.out _ BD.out) (λ_=>?_);clear hK K;refine rdw9 8 λK hK=>?_
  have RD:=hid (R0.out.below BD.out R0.out.lt);refine wstore_part 23 (.tmp 6) (.tmp 14) (w.heap.size+1+1) 0 23 [] (u8s z32) [] (u8s S) rfl (by rw[List.nil_append,List.append_nil];exact RD.out) rfl (hash_len _ HSL.out) (size32 _ HSL.out) (u8s_one _) rfl rfl ?_;intro wz a1 a2 a3;have RZ:=hid (show Blk wz (w.heap.size+1+1) 23 (u8s S) by have:=a1.out;rwa [List.nil_append,List.append_nil] at this);have bz:=B0.out.trans (BD.out.mono B0.out.size);have BZ:=hid (bz.trans (a2.out.below (by omega) bz.size));have sz:=range_of_blkA ((SEC0.out.below BD.out SEC0.out.lt).but a2.out (by have:=RD.out.lt;omega) (by omega));refine hK.out _ _ sz (λ_=>?_);clear hK K;refine wpAnyH_done (by kernel_rfl) ?_ _;go_simp;go_wp2_with fail
  exact ret_blk (p:=6) (ty:=23) rfl rfl (w.heap.size+1+1) 23 _ _ rfl RZ.out Tryz.underlying23 rfl (size32 _ HSL.out) ⟨by rw[HSS.out],BZ.out⟩
 ·skip
  go_simp;have bq:=(Below.refl (V).heap.size V).alloc (Nat.le_refl _) (.cells #[.int .u8 130,.int .u8 130] 5);have S3:=hid (show Sr ((V).alloc (.cells #[.int .u8 130,.int .u8 130] 5)) (some ⟨(V).heap.size,0,none⟩) [130,130] from Sr.made [130,130] V 5 (0,0));have Ca:=hid (C0.out.trans (bq.mono C0.out.size))
  skip
  obtain⟨g7,hg7⟩:∃ g,(V).heap.size=g:=⟨_,rfl⟩;rw[hg7] at S3 ⊢;clear bq hg7;refine hK.out _ _ (RS.out _ Ca.out) (λ_=>?_);clear hK K;refine rd9 2 λK hK=>?_
  go_simp;refine(front_t I r _ HI.out HQ.out).mono ?_
  rintro e wb ⟨v,rfl,f1⟩
  obtain⟨A,a,rfl,ha,s1,bq⟩:=fresh_op f1;rw[frontN_length I r HI.out] at ha ⊢;have S1:=hid s1;have Cb:=hid (Ca.out.trans (bq.mono Ca.out.size));have S3':=hid (S3.out.below bq);clear S3;have S3:=S3';clear S3';clear f1 ha s1 bq;refine hK.out _ _ (RS.out _ Cb.out) (λ_=>?_);clear hK K;refine rd9 5 λK hK=>?_
  go_simp;have bq:=(Below.refl (wb).heap.size wb).alloc (Nat.le_refl _) (.cells (partsV [⟨A,a,frontN I r⟩,⟨some ⟨g7,0,none⟩,2,[130,130]⟩,⟨some ⟨w.heap.size+1,0,none⟩,32,Z⟩]).toArray 25);have B9:=hid (Cb.out.trans (bq.mono Cb.out.size));have SX:=hid (show ∀ x∈([⟨A,a,frontN I r⟩,⟨some ⟨g7,0,none⟩,2,[130,130]⟩,⟨some ⟨w.heap.size+1,0,none⟩,32,Z⟩]:List Part),Sr ((wb).alloc (.cells (partsV [⟨A,a,frontN I r⟩,⟨some ⟨g7,0,none⟩,2,[130,130]⟩,⟨some ⟨w.heap.size+1,0,none⟩,32,Z⟩]).toArray 25)) x.A x.X by
   intro y hy;simp only[List.mem_cons,List.not_mem_nil,or_false] at hy;rcases hy with rfl |rfl |rfl
   ·exact S1.out.below bq
   ·exact S3.out.below bq
   ·exact Sr.of_blk (xs:=Z) (rest:=[]) ((H1.out.below Cb.out H1.out.lt).below bq (H1.out.below Cb.out H1.out.lt).lt) (by rw[List.append_nil]))
  have HPV:=hid (show partsV [⟨A,a,frontN I r⟩,⟨some ⟨g7,0,none⟩,2,[130,130]⟩,⟨some ⟨w.heap.size+1,0,none⟩,32,Z⟩]=[.slice A 20 a,.slice (some ⟨g7,0,none⟩) 2 2,.slice (some ⟨w.heap.size+1,0,none⟩) 32 32] by simp only[partsV,List.map_cons,List.map_nil,frontN_length I r HI.out,HZ.out];rfl);have BKP:=hid (blk_at (w:=wb) (g:=wb.heap.size) (by simp) (.cells (partsV [⟨A,a,frontN I r⟩,⟨some ⟨g7,0,none⟩,2,[130,130]⟩,⟨some ⟨w.heap.size+1,0,none⟩,32,Z⟩]).toArray 25) 25 (partsV [⟨A,a,frontN I r⟩,⟨some ⟨g7,0,none⟩,2,[130,130]⟩,⟨some ⟨w.heap.size+1,0,none⟩,32,Z⟩]));rw[HPV.out] at B9 SX BKP;clear bq;refine hK.out _ _ (RS.out _ B9.out) (λ_=>?_);clear hK K;refine rd9 6 λK hK=>?_
  go_simp;refine(cat_t [⟨A,a,frontN I r⟩,⟨some ⟨g7,0,none⟩,2,[130,130]⟩,⟨some ⟨w.heap.size+1,0,none⟩,32,Z⟩] (wb.heap.size) 3 3 25 _ rfl ?_ ?_ ?_ (by decide)).mono ?_
  ·rw[HPV.out];exact BKP.out
  ·exact SX.out
  ·rw[cat_leaf];simp only[List.length_append,headN_length I r _ HI.out,HZ.out];decide
  rintro e wc ⟨vc,rfl,fc⟩
  obtain⟨Ac,cc,rfl,hcc,src,bc⟩:=fresh_op fc;have BC:=hid (B9.out.trans (bc.mono B9.out.size));have SC:=hid src;clear fc hcc src bc;have HCE:=hid (cat_leaf I Z r A (some ⟨g7,0,none⟩) (some ⟨w.heap.size+1,0,none⟩) a 2 32);obtain⟨T,hT⟩:∃ T,catX [⟨A,a,frontN I r⟩,⟨some ⟨g7,0,none⟩,2,[130,130]⟩,⟨some ⟨w.heap.size+1,0,none⟩,32,Z⟩]=T:=⟨_,rfl⟩;rw[hT] at SC HCE ⊢;clear hT;have HTB:=hid (show Bytes T∧T.length≤200 by rw[HCE.out];exact⟨app_bytes (headN_bytes _ _ _ HIB.out) HZB.out,by simp only[List.length_append,headN_length I r _ HI.out,HZ.out];decide⟩);refine hK.out _ _ (RS.out _ BC.out) (λ_=>?_);clear hK K;refine rd9 7 λK hK=>?_
  go_simp;refine(refsum_t T Ac T.length cc wc rfl SC.out HTB.out.1 (by have:=HTB.out.2;omega)).mono ?_
  rintro e wd ⟨rfl,bd⟩
  have BD:=hid (BC.out.trans (bd.mono BC.out.size));have HSL:=hid (show(sum T).length=32 from rfl);have HE:=hid (show sum T=leafV I r Z by rw[HCE.out];rfl);rw[HE.out] at HSL ⊢;obtain⟨S,hS⟩:∃ S,leafV I r Z=S:=⟨_,rfl⟩;rw[hS] at HSL ⊢;have HSS:=hid hS;clear bd hS;refine hK.out _ _ (RS.out _ BD.out) (λ_=>?_);clear hK K;refine rdw9 8 λK hK=>?_
  have RD:=hid (R0.out.below BD.out R0.out.lt);refine wstore_part 23 (.tmp 6) (.tmp 14) (w.heap.size+1+1) 0 23 [] (u8s z32) [] (u8s S) rfl (by rw[List.nil_append,List.append_nil];exact RD.out) rfl (hash_len _ HSL.out) (size32 _ HSL.out) (u8s_one _) rfl rfl ?_;intro wz a1 a2 a3;have RZ:=hid (show Blk wz (w.heap.size+1+1) 23 (u8s S) by have:=a1.out;rwa [List.nil_append,List.append_nil] at this);have bz:=B0.out.trans (BD.out.mono B0.out.size);have BZ:=hid (bz.trans (a2.out.below (by omega) bz.size));have sz:=range_of_blkA ((SEC0.out.below BD.out SEC0.out.lt).but a2.out (by have:=RD.out.lt;omega) (by omega));refine hK.out _ _ sz (λ_=>?_);clear hK K;refine wpAnyH_done (by kernel_rfl) ?_ _;go_simp;go_wp2_with fail
  exact ret_blk (p:=6) (ty:=23) rfl rfl (w.heap.size+1+1) 23 _ _ rfl RZ.out Tryz.underlying23 rfl (size32 _ HSL.out) ⟨by rw[HSS.out],BZ.out⟩
set_option maxHeartbeats 4000000 in
theorem refinner_t (I X Y:List Nat) (r:Nat) (w:World) (hI:I.length=16) (hIb:Bytes I) (hX:X.length=32) (hXb:Bytes X) (hY:Y.length=32) (hYb:Bytes Y) (hr:r<1000):
  Calls Tryz.prog 31 #[.agg (u8s I).toArray,.int .i64 (r:Int),.agg (u8s X).toArray,.agg (u8s Y).toArray] w λe w'=>e= .returned (.agg (u8s (innerV I r X Y)).toArray)∧Below w.heap.size w w':=by
 have HI:=hid hI;have HIB:=hid hIb;have HQ:=hid hr;have HX:=hid hX;have HXB:=hid hXb;have HY:=hid hY;have HYB:=hid hYb;clear hI hIb hr hX hXb hY hYb
 go_enter Tryz.func31,Tryz.ntmps31
 go_upto_region 1 with(fail)
 refine world_is (λW=>Blk W (w.heap.size) 44 (u8s I)∧Blk W (w.heap.size+1) 23 (u8s X)∧Blk W (w.heap.size+1+1) 23 (u8s Y)∧Blk W (w.heap.size+1+1+1) 23 (u8s z32)∧Below w.heap.size w W) ⟨((((blk_at (w:=w) (g:=w.heap.size) (by simp) (.cells (u8s I).toArray 44) 44 (u8s I)).alloc _).alloc _).alloc _),(((blk_at (w:=(w.alloc (.cells (u8s I).toArray 44))) (g:=w.heap.size+1) (by simp) (.cells (u8s X).toArray 23) 23 (u8s X)).alloc _).alloc _),((blk_at (w:=((w.alloc (.cells (u8s I).toArray 44)).alloc (.cells (u8s X).toArray 23))) (g:=w.heap.size+1+1) (by simp) (.cells (u8s Y).toArray 23) 23 (u8s Y)).alloc _),(blk_at (w:=(((w.alloc (.cells (u8s I).toArray 44)).alloc (.cells (u8s X).toArray 23)).alloc (.cells (u8s Y).toArray 23))) (g:=w.heap.size+1+1+1) (by simp) (.cells (u8s z32).toArray 23) 23 (u8s z32)),(((((Below.refl w.heap.size w).alloc (by simp<;>omega) _).alloc (by simp<;>omega) _).alloc (by simp<;>omega) _).alloc (by simp<;>omega) _)⟩ ?_
 rintro W ⟨k0,k1,k2,k3,bw⟩
 have SEC0:=hid k0.drew;have H1:=hid k1.drew;have H2:=hid k2.drew;have R0:=hid k3.drew;have B0:=hid bw.drew;have RS:=hid (λ(X:World) (h:Below W.drew.heap.size W.drew X)=>range_of_blkA (SEC0.out.below h SEC0.out.lt));have C0:=hid (Below.refl W.drew.heap.size W.drew);have r1:=RS.out _ C0.out;clear k0 k1 k2 k3 bw;refine wp_region_held (S:=λX=>X.rangeAt w.heap.size 0 (u8s I)) (by kernel_rfl) ?_;change wpAnyH _ _ _ _ _ _ _ _ W.drew
 generalize W.drew=V at *
 refine tkg9 0 (v:= .agg (u8s I).toArray) (yieldsIf_load_mid (by kernel_rfl) 44 (.tmp 4) rfl w.heap.size 0 (by go_simp) (u8s I) _ (λ_ h=>h) Tryz.underlying44 rfl (size16B _ HI.out)) r1 ?_;refine tka9 1 r1 ?_;refine tka9 4 r1 ?_;refine tka9 5 r1 ?_;clear r1;refine wpAnyH_ready (rs:=[2,3]) (by kernel_rfl) (by simp) ?_;refine AllReadyH.cons rfl (λK hK=>?_) (AllReadyH.cons rfl (λK hK=>?_) AllReadyH.nil)
 ·skip
  go_simp;refine(front_t I r _ HI.out HQ.out).mono ?_
  rintro e wa ⟨v,rfl,f1⟩
  obtain⟨A,a,rfl,ha,s1,bq⟩:=fresh_op f1;rw[frontN_length I r HI.out] at ha ⊢;have S1:=hid s1;have Ca:=hid (C0.out.trans (bq.mono C0.out.size))
  skip
  clear f1 ha s1 bq;refine hK.out _ _ (RS.out _ Ca.out) (λ_=>?_);clear hK K;refine rd9 3 λK hK=>?_
  go_simp;have bq:=(Below.refl (wa).heap.size wa).alloc (Nat.le_refl _) (.cells #[.int .u8 131,.int .u8 131] 5);have S3:=hid (show Sr ((wa).alloc (.cells #[.int .u8 131,.int .u8 131] 5)) (some ⟨(wa).heap.size,0,none⟩) [131,131] from Sr.made [131,131] wa 5 (0,0));have Cb:=hid (Ca.out.trans (bq.mono Ca.out.size));have S1':=hid (S1.out.below bq);clear S1;have S1:=S1';clear S1';obtain⟨g7,hg7⟩:∃ g,(wa).heap.size=g:=⟨_,rfl⟩;rw[hg7] at S3 ⊢;clear bq hg7;refine hK.out _ _ (RS.out _ Cb.out) (λ_=>?_);clear hK K;refine rd9 6 λK hK=>?_
  go_simp;have bq:=(Below.refl ((wa.alloc (.cells #[.int .u8 131,.int .u8 131] 5))).heap.size (wa.alloc (.cells #[.int .u8 131,.int .u8 131] 5))).alloc (Nat.le_refl _) (.cells (partsV [⟨A,a,frontN I r⟩,⟨some ⟨g7,0,none⟩,2,[131,131]⟩,⟨some ⟨w.heap.size+1,0,none⟩,32,X⟩,⟨some ⟨w.heap.size+1+1,0,none⟩,32,Y⟩]).toArray 25);have B9:=hid (Cb.out.trans (bq.mono Cb.out.size));have SX:=hid (show ∀ x∈([⟨A,a,frontN I r⟩,⟨some ⟨g7,0,none⟩,2,[131,131]⟩,⟨some ⟨w.heap.size+1,0,none⟩,32,X⟩,⟨some ⟨w.heap.size+1+1,0,none⟩,32,Y⟩]:List Part),Sr (((wa.alloc (.cells #[.int .u8 131,.int .u8 131] 5))).alloc (.cells (partsV [⟨A,a,frontN I r⟩,⟨some ⟨g7,0,none⟩,2,[131,131]⟩,⟨some ⟨w.heap.size+1,0,none⟩,32,X⟩,⟨some ⟨w.heap.size+1+1,0,none⟩,32,Y⟩]).toArray 25)) x.A x.X by
   intro y hy;simp only[List.mem_cons,List.not_mem_nil,or_false] at hy;rcases hy with rfl |rfl |rfl |rfl
   ·exact S1.out.below bq
   ·exact S3.out.below bq
   ·exact Sr.of_blk (xs:=X) (rest:=[]) ((H1.out.below Cb.out H1.out.lt).below bq (H1.out.below Cb.out H1.out.lt).lt) (by rw[List.append_nil])
   ·exact Sr.of_blk (xs:=Y) (rest:=[]) ((H2.out.below Cb.out H2.out.lt).below bq (H2.out.below Cb.out H2.out.lt).lt) (by rw[List.append_nil]))
  have HPV:=hid (show partsV [⟨A,a,frontN I r⟩,⟨some ⟨g7,0,none⟩,2,[131,131]⟩,⟨some ⟨w.heap.size+1,0,none⟩,32,X⟩,⟨some ⟨w.heap.size+1+1,0,none⟩,32,Y⟩]=[.slice A 20 a,.slice (some ⟨g7,0,none⟩) 2 2,.slice (some ⟨w.heap.size+1,0,none⟩) 32 32,.slice (some ⟨w.heap.size+1+1,0,none⟩) 32 32] by simp only[partsV,List.map_cons,List.map_nil,frontN_length I r HI.out,HX.out,HY.out];rfl);have BKP:=hid (blk_at (w:=(wa.alloc (.cells #[.int .u8 131,.int .u8 131] 5))) (g:=wa.heap.size+1) (by simp) (.cells (partsV [⟨A,a,frontN I r⟩,⟨some ⟨g7,0,none⟩,2,[131,131]⟩,⟨some ⟨w.heap.size+1,0,none⟩,32,X⟩,⟨some ⟨w.heap.size+1+1,0,none⟩,32,Y⟩]).toArray 25) 25 (partsV [⟨A,a,frontN I r⟩,⟨some ⟨g7,0,none⟩,2,[131,131]⟩,⟨some ⟨w.heap.size+1,0,none⟩,32,X⟩,⟨some ⟨w.heap.size+1+1,0,none⟩,32,Y⟩]));rw[HPV.out] at B9 SX BKP;clear bq;refine hK.out _ _ (RS.out _ B9.out) (λ_=>?_);clear hK K;refine rd9 7 λK hK=>?_
  go_simp;refine(cat_t [⟨A,a,frontN I r⟩,⟨some ⟨g7,0,none⟩,2,[131,131]⟩,⟨some ⟨w.heap.size+1,0,none⟩,32,X⟩,⟨some ⟨w.heap.size+1+1,0,none⟩,32,Y⟩] (wa.heap.size+1) 4 4 25 _ rfl ?_ ?_ ?_ (by decide)).mono ?_
  ·rw[HPV.out];exact BKP.out
  ·exact SX.out
  ·rw[cat_inner];simp only[List.length_append,headN_length I r _ HI.out,HX.out,HY.out];decide
  rintro e wc ⟨vc,rfl,fc⟩
  obtain⟨Ac,cc,rfl,hcc,src,bc⟩:=fresh_op fc;have BC:=hid (B9.out.trans (bc.mono B9.out.size));have SC:=hid src;clear fc hcc src bc;have HCE:=hid (cat_inner I X Y r A (some ⟨g7,0,none⟩) (some ⟨w.heap.size+1,0,none⟩) (some ⟨w.heap.size+1+1,0,none⟩) a 2 32 32);obtain⟨T,hT⟩:∃ T,catX [⟨A,a,frontN I r⟩,⟨some ⟨g7,0,none⟩,2,[131,131]⟩,⟨some ⟨w.heap.size+1,0,none⟩,32,X⟩,⟨some ⟨w.heap.size+1+1,0,none⟩,32,Y⟩]=T:=⟨_,rfl⟩;rw[hT] at SC HCE ⊢;clear hT;have HTB:=hid (show Bytes T∧T.length≤200 by rw[HCE.out];exact⟨app_bytes (app_bytes (headN_bytes _ _ _ HIB.out) HXB.out) HYB.out,by simp only[List.length_append,headN_length I r _ HI.out,HX.out,HY.out];decide⟩);refine hK.out _ _ (RS.out _ BC.out) (λ_=>?_);clear hK K;refine rd9 8 λK hK=>?_
  go_simp;refine(refsum_t T Ac T.length cc wc rfl SC.out HTB.out.1 (by have:=HTB.out.2;omega)).mono ?_
  rintro e wd ⟨rfl,bd⟩
  have BD:=hid (BC.out.trans (bd.mono BC.out.size));have HSL:=hid (show(sum T).length=32 from rfl);have HE:=hid (show sum T=innerV I r X Y by rw[HCE.out];rfl);rw[HE.out] at HSL ⊢;obtain⟨S,hS⟩:∃ S,innerV I r X Y=S:=⟨_,rfl⟩;rw[hS] at HSL ⊢;have HSS:=hid hS;clear bd hS;refine hK.out _ _ (RS.out _ BD.out) (λ_=>?_);clear hK K;refine rdw9 9 λK hK=>?_
  have RD:=hid (R0.out.below BD.out R0.out.lt);refine wstore_part 23 (.tmp 8) (.tmp 17) (w.heap.size+1+1+1) 0 23 [] (u8s z32) [] (u8s S) rfl (by rw[List.nil_append,List.append_nil];exact RD.out) rfl (hash_len _ HSL.out) (size32 _ HSL.out) (u8s_one _) rfl rfl ?_;intro wz a1 a2 a3;have RZ:=hid (show Blk wz (w.heap.size+1+1+1) 23 (u8s S) by have:=a1.out;rwa [List.nil_append,List.append_nil] at this);have bz:=B0.out.trans (BD.out.mono B0.out.size);have BZ:=hid (bz.trans (a2.out.below (by omega) bz.size));have sz:=range_of_blkA ((SEC0.out.below BD.out SEC0.out.lt).but a2.out (by have:=RD.out.lt;omega) (by omega));refine hK.out _ _ sz (λ_=>?_);clear hK K;refine wpAnyH_done (by kernel_rfl) ?_ _;go_simp;go_wp2_with fail
  exact ret_blk (p:=8) (ty:=23) rfl rfl (w.heap.size+1+1+1) 23 _ _ rfl RZ.out Tryz.underlying23 rfl (size32 _ HSL.out) ⟨by rw[HSS.out],BZ.out⟩
 ·skip
  go_simp;have bq:=(Below.refl (V).heap.size V).alloc (Nat.le_refl _) (.cells #[.int .u8 131,.int .u8 131] 5);have S3:=hid (show Sr ((V).alloc (.cells #[.int .u8 131,.int .u8 131] 5)) (some ⟨(V).heap.size,0,none⟩) [131,131] from Sr.made [131,131] V 5 (0,0));have Ca:=hid (C0.out.trans (bq.mono C0.out.size))
  skip
  obtain⟨g7,hg7⟩:∃ g,(V).heap.size=g:=⟨_,rfl⟩;rw[hg7] at S3 ⊢;clear bq hg7;refine hK.out _ _ (RS.out _ Ca.out) (λ_=>?_);clear hK K;refine rd9 2 λK hK=>?_
  go_simp;refine(front_t I r _ HI.out HQ.out).mono ?_
  rintro e wb ⟨v,rfl,f1⟩
  obtain⟨A,a,rfl,ha,s1,bq⟩:=fresh_op f1;rw[frontN_length I r HI.out] at ha ⊢;have S1:=hid s1;have Cb:=hid (Ca.out.trans (bq.mono Ca.out.size));have S3':=hid (S3.out.below bq);clear S3;have S3:=S3';clear S3';clear f1 ha s1 bq;refine hK.out _ _ (RS.out _ Cb.out) (λ_=>?_);clear hK K;refine rd9 6 λK hK=>?_
  go_simp;have bq:=(Below.refl (wb).heap.size wb).alloc (Nat.le_refl _) (.cells (partsV [⟨A,a,frontN I r⟩,⟨some ⟨g7,0,none⟩,2,[131,131]⟩,⟨some ⟨w.heap.size+1,0,none⟩,32,X⟩,⟨some ⟨w.heap.size+1+1,0,none⟩,32,Y⟩]).toArray 25);have B9:=hid (Cb.out.trans (bq.mono Cb.out.size));have SX:=hid (show ∀ x∈([⟨A,a,frontN I r⟩,⟨some ⟨g7,0,none⟩,2,[131,131]⟩,⟨some ⟨w.heap.size+1,0,none⟩,32,X⟩,⟨some ⟨w.heap.size+1+1,0,none⟩,32,Y⟩]:List Part),Sr ((wb).alloc (.cells (partsV [⟨A,a,frontN I r⟩,⟨some ⟨g7,0,none⟩,2,[131,131]⟩,⟨some ⟨w.heap.size+1,0,none⟩,32,X⟩,⟨some ⟨w.heap.size+1+1,0,none⟩,32,Y⟩]).toArray 25)) x.A x.X by
   intro y hy;simp only[List.mem_cons,List.not_mem_nil,or_false] at hy;rcases hy with rfl |rfl |rfl |rfl
   ·exact S1.out.below bq
   ·exact S3.out.below bq
   ·exact Sr.of_blk (xs:=X) (rest:=[]) ((H1.out.below Cb.out H1.out.lt).below bq (H1.out.below Cb.out H1.out.lt).lt) (by rw[List.append_nil])
   ·exact Sr.of_blk (xs:=Y) (rest:=[]) ((H2.out.below Cb.out H2.out.lt).below bq (H2.out.below Cb.out H2.out.lt).lt) (by rw[List.append_nil]))
  have HPV:=hid (show partsV [⟨A,a,frontN I r⟩,⟨some ⟨g7,0,none⟩,2,[131,131]⟩,⟨some ⟨w.heap.size+1,0,none⟩,32,X⟩,⟨some ⟨w.heap.size+1+1,0,none⟩,32,Y⟩]=[.slice A 20 a,.slice (some ⟨g7,0,none⟩) 2 2,.slice (some ⟨w.heap.size+1,0,none⟩) 32 32,.slice (some ⟨w.heap.size+1+1,0,none⟩) 32 32] by simp only[partsV,List.map_cons,List.map_nil,frontN_length I r HI.out,HX.out,HY.out];rfl);have BKP:=hid (blk_at (w:=wb) (g:=wb.heap.size) (by simp) (.cells (partsV [⟨A,a,frontN I r⟩,⟨some ⟨g7,0,none⟩,2,[131,131]⟩,⟨some ⟨w.heap.size+1,0,none⟩,32,X⟩,⟨some ⟨w.heap.size+1+1,0,none⟩,32,Y⟩]).toArray 25) 25 (partsV [⟨A,a,frontN I r⟩,⟨some ⟨g7,0,none⟩,2,[131,131]⟩,⟨some ⟨w.heap.size+1,0,none⟩,32,X⟩,⟨some ⟨w.heap.size+1+1,0,none⟩,32,Y⟩]));rw[HPV.out] at B9 SX BKP;clear bq;refine hK.out _ _ (RS.out _ B9.out) (λ_=>?_);clear hK K;refine rd9 7 λK hK=>?_
  go_simp;refine(cat_t [⟨A,a,frontN I r⟩,⟨some ⟨g7,0,none⟩,2,[131,131]⟩,⟨some ⟨w.heap.size+1,0,none⟩,32,X⟩,⟨some ⟨w.heap.size+1+1,0,none⟩,32,Y⟩] (wb.heap.size) 4 4 25 _ rfl ?_ ?_ ?_ (by decide)).mono ?_
  ·rw[HPV.out];exact BKP.out
  ·exact SX.out
  ·rw[cat_inner];simp only[List.length_append,headN_length I r _ HI.out,HX.out,HY.out];decide
  rintro e wc ⟨vc,rfl,fc⟩
  obtain⟨Ac,cc,rfl,hcc,src,bc⟩:=fresh_op fc;have BC:=hid (B9.out.trans (bc.mono B9.out.size));have SC:=hid src;clear fc hcc src bc;have HCE:=hid (cat_inner I X Y r A (some ⟨g7,0,none⟩) (some ⟨w.heap.size+1,0,none⟩) (some ⟨w.heap.size+1+1,0,none⟩) a 2 32 32);obtain⟨T,hT⟩:∃ T,catX [⟨A,a,frontN I r⟩,⟨some ⟨g7,0,none⟩,2,[131,131]⟩,⟨some ⟨w.heap.size+1,0,none⟩,32,X⟩,⟨some ⟨w.heap.size+1+1,0,none⟩,32,Y⟩]=T:=⟨_,rfl⟩;rw[hT] at SC HCE ⊢;clear hT;have HTB:=hid (show Bytes T∧T.length≤200 by rw[HCE.out];exact⟨app_bytes (app_bytes (headN_bytes _ _ _ HIB.out) HXB.out) HYB.out,by simp only[List.length_append,headN_length I r _ HI.out,HX.out,HY.out];decide⟩);refine hK.out _ _ (RS.out _ BC.out) (λ_=>?_);clear hK K;refine rd9 8 λK hK=>?_
  go_simp;refine(refsum_t T Ac T.length cc wc rfl SC.out HTB.out.1 (by have:=HTB.out.2;omega)).mono ?_
  rintro e wd ⟨rfl,bd⟩
  have BD:=hid (BC.out.trans (bd.mono BC.out.size));have HSL:=hid (show(sum T).length=32 from rfl);have HE:=hid (show sum T=innerV I r X Y by rw[HCE.out];rfl);rw[HE.out] at HSL ⊢;obtain⟨S,hS⟩:∃ S,innerV I r X Y=S:=⟨_,rfl⟩;rw[hS] at HSL ⊢;have HSS:=hid hS;clear bd hS;refine hK.out _ _ (RS.out _ BD.out) (λ_=>?_);clear hK K;refine rdw9 9 λK hK=>?_
  have RD:=hid (R0.out.below BD.out R0.out.lt);refine wstore_part 23 (.tmp 8) (.tmp 17) (w.heap.size+1+1+1) 0 23 [] (u8s z32) [] (u8s S) rfl (by rw[List.nil_append,List.append_nil];exact RD.out) rfl (hash_len _ HSL.out) (size32 _ HSL.out) (u8s_one _) rfl rfl ?_;intro wz a1 a2 a3;have RZ:=hid (show Blk wz (w.heap.size+1+1+1) 23 (u8s S) by have:=a1.out;rwa [List.nil_append,List.append_nil] at this);have bz:=B0.out.trans (BD.out.mono B0.out.size);have BZ:=hid (bz.trans (a2.out.below (by omega) bz.size));have sz:=range_of_blkA ((SEC0.out.below BD.out SEC0.out.lt).but a2.out (by have:=RD.out.lt;omega) (by omega));refine hK.out _ _ sz (λ_=>?_);clear hK K;refine wpAnyH_done (by kernel_rfl) ?_ _;go_simp;go_wp2_with fail
  exact ret_blk (p:=8) (ty:=23) rfl rfl (w.heap.size+1+1+1) 23 _ _ rfl RZ.out Tryz.underlying23 rfl (size32 _ HSL.out) ⟨by rw[HSS.out],BZ.out⟩
end Go.Proofs.YtjlophplcmidlaaGreatDoor
