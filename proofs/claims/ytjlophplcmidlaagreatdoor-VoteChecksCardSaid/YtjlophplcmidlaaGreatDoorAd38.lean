/-
  '[]byte' of a constant, wherever its row lies
  THE REFERENCE OF CHAPTER 13
  PACKAGE vote, what is pure
  PACKAGE vote
-/
import Derived.Test.YtjlophplcmidlaaGreatDoorAd2
import Derived.Lib.SlBytesConst
import Derived.Test.YtjlophplcmidlaaGreatDoorAd36
import Derived.Test.YtjlophplcmidlaaGreatDoorAd11
import Derived.Test.YtjlophplcmidlaaGreatDoorTk
open Go.Lib (hid)
set_option maxRecDepth 100000
namespace Go.Proofs.YtjlophplcmidlaaGreatDoor
open Go Go.RowKit Sh
theorem frz_run {P:Program} (W:World) (t e:TypeId) (g:Nat) (C:Array Value) (n c:Nat) (ht:P.underlying t=some (.slice e)) (he:P.underlying e=some (.int .u8)) (hg:W.heap[g]? =some (.cells C e)):
  ∃ W',(convert t t (.slice (some ⟨g,0,none⟩) n c)).run P W= .ok (.slice (some ⟨g,0,none⟩) n c) W'∧W'.heap[g]? =some (.cells C e (C.size,C.size+1))∧Kept (λk=>k=g) W W':=by
 have hsh:W.shape? g=some (e,C.size):=by unfold World.shape?;rw[hg]
 refine⟨W.freeze ⟨g,C.size,none⟩ 1,?_,?_,?_⟩
 ·simp[convert,run_underlying ht,run_underlying he,markStringish,hsh]
 ·unfold World.freeze;rw[if_neg (by decide)]
  show(W.heap.modify g _)[g]? =_
  rw[Array.getElem?_modify,if_pos rfl,hg];rfl
 ·unfold World.freeze;rw[if_neg (by decide)];refine⟨rfl,rfl,rfl,?_,λk _ hf=>?_⟩
  ·show W.heap.size≤(W.heap.modify g _).size
   rw[Array.size_modify];exact Nat.le_refl _
  ·show(W.heap.modify g _)[k]? =_
   rw[Array.getElem?_modify,if_neg (λe=>hf e.symm)]
theorem sr_marked {W:World} {g:Nat} {xs:List Nat} {e:TypeId} {fr:Nat×Nat} (h:W.heap[g]? =some (.cells (u8s xs).toArray e fr)):Sr W (some ⟨g,0,none⟩) xs:=λ_=>by
 have hl:g<W.heap.size:=by
  rcases Nat.lt_or_ge g W.heap.size with h1 |h1
  ·exact h1
  ·rw[Array.getElem?_eq_none h1] at h;cases h
 refine⟨g,0,rfl,hl,λj hj=>?_⟩;rw[Nat.zero_add];unfold World.cell?;simp only[h]
 simpa using u8s_get xs j hj
structure TX (w0 W:World) (a l:List Nat):Prop where
 a:Blk W w0.heap.size 23 (u8s a)
 l:Blk W (w0.heap.size+1) 23 (u8s l)
 bel:Below w0.heap.size w0 W
theorem TX.below {w0 W W':World} {a l:List Nat} (h:TX w0 W a l) (hb:Below W.heap.size W W'):TX w0 W' a l:=⟨h.a.below hb h.a.lt,h.l.below hb h.l.lt,h.bel.trans (hb.mono h.bel.size)⟩
theorem cat_textX (a l:List Nat) (q:Nat) (p1 p2 p3 p4:Option Addr) (c1 c2 c3 c4:Nat):catK [⟨p1,c1,[86,79,84,69]⟩,⟨p2,c2,a⟩,⟨p3,c3,beN q 4⟩,⟨p4,c4,l⟩]=[86,79,84,69]++a++beN q 4++l:=by simp[catK]
set_option maxHeartbeats 2000000 in
theorem refText_t (a l:List Nat) (q:Nat) (w:World) (ha:a.length=32) (hl:l.length=32) (hq:q≤1048576):
  Calls Tryz.prog 16 #[.agg (u8s a).toArray,.int .i64 (q:Int),.agg (u8s l).toArray] w λe w'=>∃ u,e= .returned u∧Fresh 5 w w' u ([86,79,84,69]++a++beN q 4++l):=by
 have HCE:=hid (λp1 p2 p3 p4 c1 c2 c3 c4=>cat_textX a l q p1 p2 p3 p4 c1 c2 c3 c4);have HTL:=hid (show([86,79,84,69]++a++beN q 4++l).length=72 by simp only[List.length_append,ha,hl,beN_length];rfl);obtain⟨T,hT⟩:∃ T,[86,79,84,69]++a++beN q 4++l=T:=⟨_,rfl⟩;rw[hT] at HTL ⊢;simp only[hT] at HCE;clear hT;have i1:IntKind.u64.wrap (q:Int)=(q:Int):=IntWalk.u64_in _ (by omega);have HA:=hid ha;have HL:=hid hl;have X0:=hid (show TX w ((w.alloc (.cells (u8s a).toArray 23)).alloc (.cells (u8s l).toArray 23)) a l from
  ⟨(Blk.new w 23 (u8s a)).alloc _,Blk.new2 w _ 23 (u8s l),((Below.refl _ _).alloc (Nat.le_refl _) _).alloc (by simp) _⟩)
 clear ha hl
 go_enter Tryz.func16,Tryz.ntmps16
 go_upto_region 1 with(fail)
 refine world_is (λW=>TX w W a l) X0.out ?_
 rintro W x1
 have X1:=hid (x1.below (show Below W.heap.size W W.drew from(Below.refl _ _).drew));clear x1 X0;refine wp_region_held (S:=λ_=>True) (by kernel_rfl) ?_;change wpAnyH _ _ _ _ _ _ _ _ W.drew;obtain⟨V,hV⟩:∃ V,W.drew=V:=⟨_,rfl⟩;rw[hV] at X1 ⊢;clear hV;refine tka9 2 trivial ?_;refine tka9 3 trivial ?_;refine tka9 4 trivial ?_;refine tka9 6 trivial ?_;refine wpAnyH_ready (rs:=[0,5]) (by kernel_rfl) (by simp) ?_;refine AllReadyH.cons rfl (λK hK=>?_) (AllReadyH.cons rfl (λK hK=>?_) AllReadyH.nil)
 ·skip
  go_simp;have bg:=Blk.new V 5 (u8s [86,79,84,69]);have bq:=(Below.refl (V).heap.size V).alloc (Nat.le_refl _) (.cells (u8s [86,79,84,69]).toArray 5);have X2:=hid (X1.out.below bq);refine hK.out _ _ trivial (λ_=>?_);clear hK K;change wpAnyH _ _ _ _ _ _ _ _ ((V).alloc (.cells (u8s [86,79,84,69]).toArray 5));obtain⟨U,hU⟩:∃ U,(V).alloc (.cells (u8s [86,79,84,69]).toArray 5)=U:=⟨_,rfl⟩;rw[hU] at bg bq X2 ⊢;obtain⟨gl,hgl⟩:∃ z,(V).heap.size=z:=⟨_,rfl⟩;rw[hgl] at bg ⊢;have BG:=hid bg;have BQ:=hid bq;have HGL:=hid (show w.heap.size+1<gl from by rw[←hgl];exact X1.out.l.lt);have HGE:=hid hgl;clear bg bq hU hgl X1;refine wpAnyH_ready (rs:=[1,5]) (by kernel_rfl) (by simp) ?_;refine AllReadyH.cons rfl (λK hK=>?_) (AllReadyH.cons rfl (λK hK=>?_) AllReadyH.nil)
  ·skip
   obtain⟨Y,hr,hg,hk⟩:=frz_run (P:=Tryz.prog) U 25 5 gl (u8s [86,79,84,69]).toArray 4 4 Tryz.underlying25 Tryz.underlying5 BG.out;go_simp;have SL:=hid (sr_marked hg);have X3:=hid (show TX w Y a l from⟨X2.out.a.kept hk (by have:=HGL.out;omega),X2.out.l.kept hk (by have:=HGL.out;omega),⟨hk.os.trans X2.out.bel.os,hk.tape.trans X2.out.bel.tape,hk.output.trans X2.out.bel.output,Nat.le_trans X2.out.bel.size hk.size,λk h=>(hk.block k (Nat.lt_of_lt_of_le h X2.out.bel.size) (by have:=HGL.out;omega)).trans (X2.out.bel.block k h)⟩⟩);refine hK.out _ _ trivial (λ_=>?_);clear hK K hr hg hk BG BQ X2;refine rd9 5 λK hK=>?_
   go_simp;refine(refnum_t q 4 Y (by decide) (by decide)).mono ?_
   rintro e w5 ⟨u5,rfl,f5⟩
   obtain⟨An,cn,rfl,hcn,sn,b5⟩:=fresh_opK f5;rw[beN_length] at hcn ⊢;have X5:=hid (X3.out.below b5);have SN:=hid sn;have SL:=hid (SL.out.below b5);refine hK.out _ _ trivial (λ_=>?_);clear hK K f5 hcn sn b5 X3;have bx:=(Below.refl (w5).heap.size w5).alloc (Nat.le_refl _) (.cells (partsK [⟨some ⟨gl,0,none⟩,4,[86,79,84,69]⟩,⟨some ⟨w.heap.size,0,none⟩,32,a⟩,⟨An,cn,beN q 4⟩,⟨some ⟨w.heap.size+1,0,none⟩,32,l⟩]).toArray 25);have XB7:=hid (X5.out.below bx);have SX:=hid (show ∀ z∈([⟨some ⟨gl,0,none⟩,4,[86,79,84,69]⟩,⟨some ⟨w.heap.size,0,none⟩,32,a⟩,⟨An,cn,beN q 4⟩,⟨some ⟨w.heap.size+1,0,none⟩,32,l⟩]:List PartK),Sr ((w5).alloc (.cells (partsK [⟨some ⟨gl,0,none⟩,4,[86,79,84,69]⟩,⟨some ⟨w.heap.size,0,none⟩,32,a⟩,⟨An,cn,beN q 4⟩,⟨some ⟨w.heap.size+1,0,none⟩,32,l⟩]).toArray 25)) z.A z.X by
    intro z hz;simp only[List.mem_cons,List.not_mem_nil,or_false] at hz;rcases hz with rfl |rfl |rfl |rfl
    ·exact SL.out.below bx
    ·exact(Sr.of_blk (rest:=[]) X5.out.a (by simp)).below bx
    ·exact SN.out.below bx
    ·exact(Sr.of_blk (rest:=[]) X5.out.l (by simp)).below bx)
   have BKP:=hid (Blk.new w5 25 (partsK [⟨some ⟨gl,0,none⟩,4,[86,79,84,69]⟩,⟨some ⟨w.heap.size,0,none⟩,32,a⟩,⟨An,cn,beN q 4⟩,⟨some ⟨w.heap.size+1,0,none⟩,32,l⟩]));have HCX:=hid (HCE.out (some ⟨gl,0,none⟩) (some ⟨w.heap.size,0,none⟩) An (some ⟨w.heap.size+1,0,none⟩) 4 32 cn 32);have HPV:=hid (show partsK [⟨some ⟨gl,0,none⟩,4,[86,79,84,69]⟩,⟨some ⟨w.heap.size,0,none⟩,32,a⟩,⟨An,cn,beN q 4⟩,⟨some ⟨w.heap.size+1,0,none⟩,32,l⟩]=[.slice (some ⟨gl,0,none⟩) 4 4,.slice (some ⟨w.heap.size,0,none⟩) 32 32,.slice An 4 cn,.slice (some ⟨w.heap.size+1,0,none⟩) 32 32] by simp only[partsK,List.map_cons,List.map_nil,beN_length,HA.out,HL.out];rfl);rw[HPV.out] at XB7 SX BKP;clear bx SL SN X5;refine rd9 7 λK hK=>?_
   go_simp;refine hK.out _ _ trivial (λ_=>?_);clear hK K;refine rd9 8 λK hK=>?_
   go_simp;refine(catK_t [⟨some ⟨gl,0,none⟩,4,[86,79,84,69]⟩,⟨some ⟨w.heap.size,0,none⟩,32,a⟩,⟨An,cn,beN q 4⟩,⟨some ⟨w.heap.size+1,0,none⟩,32,l⟩] (w5).heap.size 4 4 25 _ rfl (by rw[HPV.out];exact BKP.out) SX.out (by rw[HCX.out,HTL.out];decide) (by decide)).mono ?_
   rintro e w9 ⟨v9,rfl,f9⟩
   rw[HCX.out] at f9;have F9:=hid (show Fresh 5 w w9 v9 T from⟨own_base f9.1 (λk e=>Nat.le_trans XB7.out.bel.size (f9.1.lt k e).1),XB7.out.bel.trans (f9.2.mono XB7.out.bel.size)⟩);clear f9 SX BKP HPV XB7;refine hK.out _ _ trivial (λ_=>?_);clear hK K;refine tka9 9 trivial ?_;refine wpAnyH_done (by kernel_rfl) ?_ _;go_simp;go_wp2_with fail
   go_ret;exact⟨v9,rfl,F9.out⟩
  ·skip
   go_simp;refine(refnum_t q 4 U (by decide) (by decide)).mono ?_
   rintro e w5 ⟨u5,rfl,f5⟩
   obtain⟨An,cn,rfl,hcn,sn,b5⟩:=fresh_opK f5;have hab:∀ ad:Addr,An=some ad→U.heap.size≤ad.block:=λad e=>by subst e;exact(f5.1.lt ad.block rfl).1
   have hgu:=BG.out.lt;rw[beN_length] at hcn ⊢;have X5:=hid (X2.out.below b5);have BG:=hid (BG.out.below b5 BG.out.lt);refine hK.out _ _ trivial (λ_=>?_);clear hK K f5 hcn b5 X2 BQ;refine rd9 1 λK hK=>?_
   obtain⟨Y,hr,hg,hk⟩:=frz_run (P:=Tryz.prog) w5 25 5 gl (u8s [86,79,84,69]).toArray 4 4 Tryz.underlying25 Tryz.underlying5 BG.out;go_simp;have SL:=hid (sr_marked hg);have X6:=hid (show TX w Y a l from⟨X5.out.a.kept hk (by have:=HGL.out;omega),X5.out.l.kept hk (by have:=HGL.out;omega),⟨hk.os.trans X5.out.bel.os,hk.tape.trans X5.out.bel.tape,hk.output.trans X5.out.bel.output,Nat.le_trans X5.out.bel.size hk.size,λk h=>(hk.block k (Nat.lt_of_lt_of_le h X5.out.bel.size) (by have:=HGL.out;omega)).trans (X5.out.bel.block k h)⟩⟩);have SN:=hid (sn.kept hk (λ_ ad e q=>by have h1:=hab ad e;have h2:ad.block=gl:=q;omega));refine hK.out _ _ trivial (λ_=>?_);clear hK K hr hg hk BG X5 sn hab hgu;have bx:=(Below.refl (Y).heap.size Y).alloc (Nat.le_refl _) (.cells (partsK [⟨some ⟨gl,0,none⟩,4,[86,79,84,69]⟩,⟨some ⟨w.heap.size,0,none⟩,32,a⟩,⟨An,cn,beN q 4⟩,⟨some ⟨w.heap.size+1,0,none⟩,32,l⟩]).toArray 25);have XB7:=hid (X6.out.below bx);have SX:=hid (show ∀ z∈([⟨some ⟨gl,0,none⟩,4,[86,79,84,69]⟩,⟨some ⟨w.heap.size,0,none⟩,32,a⟩,⟨An,cn,beN q 4⟩,⟨some ⟨w.heap.size+1,0,none⟩,32,l⟩]:List PartK),Sr ((Y).alloc (.cells (partsK [⟨some ⟨gl,0,none⟩,4,[86,79,84,69]⟩,⟨some ⟨w.heap.size,0,none⟩,32,a⟩,⟨An,cn,beN q 4⟩,⟨some ⟨w.heap.size+1,0,none⟩,32,l⟩]).toArray 25)) z.A z.X by
    intro z hz;simp only[List.mem_cons,List.not_mem_nil,or_false] at hz;rcases hz with rfl |rfl |rfl |rfl
    ·exact SL.out.below bx
    ·exact(Sr.of_blk (rest:=[]) X6.out.a (by simp)).below bx
    ·exact SN.out.below bx
    ·exact(Sr.of_blk (rest:=[]) X6.out.l (by simp)).below bx)
   have BKP:=hid (Blk.new Y 25 (partsK [⟨some ⟨gl,0,none⟩,4,[86,79,84,69]⟩,⟨some ⟨w.heap.size,0,none⟩,32,a⟩,⟨An,cn,beN q 4⟩,⟨some ⟨w.heap.size+1,0,none⟩,32,l⟩]));have HCX:=hid (HCE.out (some ⟨gl,0,none⟩) (some ⟨w.heap.size,0,none⟩) An (some ⟨w.heap.size+1,0,none⟩) 4 32 cn 32);have HPV:=hid (show partsK [⟨some ⟨gl,0,none⟩,4,[86,79,84,69]⟩,⟨some ⟨w.heap.size,0,none⟩,32,a⟩,⟨An,cn,beN q 4⟩,⟨some ⟨w.heap.size+1,0,none⟩,32,l⟩]=[.slice (some ⟨gl,0,none⟩) 4 4,.slice (some ⟨w.heap.size,0,none⟩) 32 32,.slice An 4 cn,.slice (some ⟨w.heap.size+1,0,none⟩) 32 32] by simp only[partsK,List.map_cons,List.map_nil,beN_length,HA.out,HL.out];rfl);rw[HPV.out] at XB7 SX BKP;clear bx SL SN X6;refine rd9 7 λK hK=>?_
   go_simp;refine hK.out _ _ trivial (λ_=>?_);clear hK K;refine rd9 8 λK hK=>?_
   go_simp;refine(catK_t [⟨some ⟨gl,0,none⟩,4,[86,79,84,69]⟩,⟨some ⟨w.heap.size,0,none⟩,32,a⟩,⟨An,cn,beN q 4⟩,⟨some ⟨w.heap.size+1,0,none⟩,32,l⟩] (Y).heap.size 4 4 25 _ rfl (by rw[HPV.out];exact BKP.out) SX.out (by rw[HCX.out,HTL.out];decide) (by decide)).mono ?_
   rintro e w9 ⟨v9,rfl,f9⟩
   rw[HCX.out] at f9;have F9:=hid (show Fresh 5 w w9 v9 T from⟨own_base f9.1 (λk e=>Nat.le_trans XB7.out.bel.size (f9.1.lt k e).1),XB7.out.bel.trans (f9.2.mono XB7.out.bel.size)⟩);clear f9 SX BKP HPV XB7;refine hK.out _ _ trivial (λ_=>?_);clear hK K;refine tka9 9 trivial ?_;refine wpAnyH_done (by kernel_rfl) ?_ _;go_simp;go_wp2_with fail
   go_ret;exact⟨v9,rfl,F9.out⟩
 ·skip
  rw[if_pos (by kernel_rfl)];go_simp;refine(refnum_t q 4 V (by decide) (by decide)).mono ?_
  rintro e w5 ⟨u5,rfl,f5⟩
  obtain⟨An,cn,rfl,hcn,sn,b5⟩:=fresh_opK f5;rw[beN_length] at hcn ⊢;have X5:=hid (X1.out.below b5);have SN5:=hid sn;refine hK.out _ _ trivial (λ_=>?_);clear hK K f5 hcn sn b5 X1;refine rd9 0 λK hK=>?_
  go_simp;have bg:=Blk.new w5 5 (u8s [86,79,84,69]);have bq:=(Below.refl (w5).heap.size w5).alloc (Nat.le_refl _) (.cells (u8s [86,79,84,69]).toArray 5);have X6:=hid (X5.out.below bq);refine hK.out _ _ trivial (λ_=>?_);clear hK K;change wpAnyH _ _ _ _ _ _ _ _ ((w5).alloc (.cells (u8s [86,79,84,69]).toArray 5));obtain⟨U,hU⟩:∃ U,(w5).alloc (.cells (u8s [86,79,84,69]).toArray 5)=U:=⟨_,rfl⟩;rw[hU] at bg bq X6 ⊢;obtain⟨gl,hgl⟩:∃ z,(w5).heap.size=z:=⟨_,rfl⟩;rw[hgl] at bg ⊢;have BG:=hid bg;have BQ:=hid bq;have HGL:=hid (show w.heap.size+1<gl from by rw[←hgl];exact X5.out.l.lt);have HGE:=hid hgl;clear bg bq hU hgl X5;refine rd9 1 λK hK=>?_
  obtain⟨Y,hr,hg,hk⟩:=frz_run (P:=Tryz.prog) U 25 5 gl (u8s [86,79,84,69]).toArray 4 4 Tryz.underlying25 Tryz.underlying5 BG.out;go_simp;have SL:=hid (sr_marked hg);have X7:=hid (show TX w Y a l from⟨X6.out.a.kept hk (by have:=HGL.out;omega),X6.out.l.kept hk (by have:=HGL.out;omega),⟨hk.os.trans X6.out.bel.os,hk.tape.trans X6.out.bel.tape,hk.output.trans X6.out.bel.output,Nat.le_trans X6.out.bel.size hk.size,λk h=>(hk.block k (Nat.lt_of_lt_of_le h X6.out.bel.size) (by have:=HGL.out;omega)).trans (X6.out.bel.block k h)⟩⟩);have SN:=hid ((SN5.out.below BQ.out).kept hk (λhx ad e q=>by have h1:=SN5.out.lt hx ad e;have h2:ad.block=gl:=q;have h3:=HGE.out;omega));refine hK.out _ _ trivial (λ_=>?_);clear hK K hr hg hk BG BQ X6 SN5;have bx:=(Below.refl (Y).heap.size Y).alloc (Nat.le_refl _) (.cells (partsK [⟨some ⟨gl,0,none⟩,4,[86,79,84,69]⟩,⟨some ⟨w.heap.size,0,none⟩,32,a⟩,⟨An,cn,beN q 4⟩,⟨some ⟨w.heap.size+1,0,none⟩,32,l⟩]).toArray 25);have XB7:=hid (X7.out.below bx);have SX:=hid (show ∀ z∈([⟨some ⟨gl,0,none⟩,4,[86,79,84,69]⟩,⟨some ⟨w.heap.size,0,none⟩,32,a⟩,⟨An,cn,beN q 4⟩,⟨some ⟨w.heap.size+1,0,none⟩,32,l⟩]:List PartK),Sr ((Y).alloc (.cells (partsK [⟨some ⟨gl,0,none⟩,4,[86,79,84,69]⟩,⟨some ⟨w.heap.size,0,none⟩,32,a⟩,⟨An,cn,beN q 4⟩,⟨some ⟨w.heap.size+1,0,none⟩,32,l⟩]).toArray 25)) z.A z.X by
   intro z hz;simp only[List.mem_cons,List.not_mem_nil,or_false] at hz;rcases hz with rfl |rfl |rfl |rfl
   ·exact SL.out.below bx
   ·exact(Sr.of_blk (rest:=[]) X7.out.a (by simp)).below bx
   ·exact SN.out.below bx
   ·exact(Sr.of_blk (rest:=[]) X7.out.l (by simp)).below bx)
  have BKP:=hid (Blk.new Y 25 (partsK [⟨some ⟨gl,0,none⟩,4,[86,79,84,69]⟩,⟨some ⟨w.heap.size,0,none⟩,32,a⟩,⟨An,cn,beN q 4⟩,⟨some ⟨w.heap.size+1,0,none⟩,32,l⟩]));have HCX:=hid (HCE.out (some ⟨gl,0,none⟩) (some ⟨w.heap.size,0,none⟩) An (some ⟨w.heap.size+1,0,none⟩) 4 32 cn 32);have HPV:=hid (show partsK [⟨some ⟨gl,0,none⟩,4,[86,79,84,69]⟩,⟨some ⟨w.heap.size,0,none⟩,32,a⟩,⟨An,cn,beN q 4⟩,⟨some ⟨w.heap.size+1,0,none⟩,32,l⟩]=[.slice (some ⟨gl,0,none⟩) 4 4,.slice (some ⟨w.heap.size,0,none⟩) 32 32,.slice An 4 cn,.slice (some ⟨w.heap.size+1,0,none⟩) 32 32] by simp only[partsK,List.map_cons,List.map_nil,beN_length,HA.out,HL.out];rfl);rw[HPV.out] at XB7 SX BKP;clear bx SL SN X7;refine rd9 7 λK hK=>?_
  go_simp;refine hK.out _ _ trivial (λ_=>?_);clear hK K;refine rd9 8 λK hK=>?_
  go_simp;refine(catK_t [⟨some ⟨gl,0,none⟩,4,[86,79,84,69]⟩,⟨some ⟨w.heap.size,0,none⟩,32,a⟩,⟨An,cn,beN q 4⟩,⟨some ⟨w.heap.size+1,0,none⟩,32,l⟩] (Y).heap.size 4 4 25 _ rfl (by rw[HPV.out];exact BKP.out) SX.out (by rw[HCX.out,HTL.out];decide) (by decide)).mono ?_
  rintro e w9 ⟨v9,rfl,f9⟩
  rw[HCX.out] at f9;have F9:=hid (show Fresh 5 w w9 v9 T from⟨own_base f9.1 (λk e=>Nat.le_trans XB7.out.bel.size (f9.1.lt k e).1),XB7.out.bel.trans (f9.2.mono XB7.out.bel.size)⟩);clear f9 SX BKP HPV XB7;refine hK.out _ _ trivial (λ_=>?_);clear hK K;refine tka9 9 trivial ?_;refine wpAnyH_done (by kernel_rfl) ?_ _;go_simp;go_wp2_with fail
  go_ret;exact⟨v9,rfl,F9.out⟩
structure Vt where
 p:Int
 f:Int
 l:List Nat
 s:List Nat
def mayVo (x:Vt):Bool:=(decide (0≤x.p) && decide (x.p≤1048576)) && ((decide (0≤x.f) && decide (x.f≤6)) && decide (x.s.length≤9000))
theorem mayVo_h {x:Vt} (h:mayVo x=true):0≤x.p∧x.p≤1048576∧0≤x.f∧x.f≤6∧x.s.length≤9000:=by
 unfold mayVo at h;simp only[Bool.and_eq_true,decide_eq_true_eq] at h;obtain⟨⟨h1,h2⟩,⟨h3,h4⟩,h5⟩:=h;exact⟨h1,h2,h3,h4,h5⟩
def putV (x:Vt):List Nat:=beN x.p.toNat 4++(beN x.f.toNat 1++(x.l++txtN x.s))
def rawN (xs:List Nat) (bad:Bool) (n:Nat):List Nat×List Nat×Bool:=if n≤xs.length then(xs.take n,xs.drop n,bad) else([],[],true)
def lnkN (l:List Nat):List Nat:=l++List.replicate (32-l.length) 0
def v1 (xs:List Nat):=rNum xs false 4
def v2 (xs:List Nat):=rNum (v1 xs).2.1 (v1 xs).2.2 1
def v3 (xs:List Nat):=rawN (v2 xs).2.1 (v2 xs).2.2 32
def v4 (xs:List Nat):=rTxt (v3 xs).2.1 (v3 xs).2.2 9000
def gotV (xs:List Nat):Vt:=⟨((v1 xs).1 :Nat),((v2 xs).1 :Nat),lnkN (v3 xs).1,(v4 xs).1⟩
def okV9 (xs:List Nat):Bool:=decide (endN (v4 xs).2.1 (v4 xs).2.2 =0) && mayVo (gotV xs)
theorem rawN_len (xs:List Nat) (bad:Bool) (n:Nat):(rawN xs bad n).1.length≤n∧(rawN xs bad n).2.1.length≤xs.length:=by
 unfold rawN
 split
 ·exact⟨by rw[List.length_take];omega,by rw[List.length_drop];omega⟩
 ·exact⟨Nat.zero_le _,Nat.zero_le _⟩
theorem rawN_bytes {xs:List Nat} (bad:Bool) (n:Nat) (h:Bytes xs):Bytes (rawN xs bad n).1 ∧Bytes (rawN xs bad n).2.1 :=by
 unfold rawN
 split
 ·exact⟨bytes_take h _,bytes_drop h _⟩
 ·exact⟨nil_bytes,nil_bytes⟩
theorem rawN_front (l ys:List Nat) (bad:Bool) (n:Nat) (h:l.length=n):rawN (l++ys) bad n=(l,ys,bad):=by
 unfold rawN;rw[if_pos (by rw[List.length_append];omega),List.take_left' h,List.drop_left' h]
theorem lnkN_full {l:List Nat} (h:l.length=32):lnkN l=l:=by
 unfold lnkN;rw[h];simp
theorem frontV {x:Vt} (ex:List Nat) (h:mayVo x=true) (hl:x.l.length=32):gotV (putV x++ex)=x∧okV9 (putV x++ex)=decide (endN ex false=0):=by
 obtain⟨h1,h2,h3,h4,h5⟩:=mayVo_h h;obtain⟨p,f,l,s⟩:=x
 dsimp only at h1 h2 h3 h4 h5 hl
 obtain⟨a,rfl⟩:=Int.eq_ofNat_of_zero_le h1;obtain⟨b,rfl⟩:=Int.eq_ofNat_of_zero_le h3;have hP:putV ⟨(a:Int),(b:Int),l,s⟩++ex=beN a 4++(beN b 1++(l++(txtN s++ex))):=by
  unfold putV;simp only[Int.toNat_natCast,List.append_assoc]
 have G1:v1 (putV ⟨(a:Int),(b:Int),l,s⟩++ex)=(a,beN b 1++(l++(txtN s++ex)),false):=by
  unfold v1;rw[hP,rNum_front a 4 _ false (by omega)]
 have G2:v2 (putV ⟨(a:Int),(b:Int),l,s⟩++ex)=(b,l++(txtN s++ex),false):=by
  unfold v2;rw[G1,rNum_front b 1 _ false (by omega)]
 have G3:v3 (putV ⟨(a:Int),(b:Int),l,s⟩++ex)=(l,txtN s++ex,false):=by
  unfold v3;rw[G2,rawN_front l _ false 32 hl]
 have G4:v4 (putV ⟨(a:Int),(b:Int),l,s⟩++ex)=(s,ex,false):=by
  unfold v4;rw[G3,rTxt_frontG s ex false 9000 h5 (by omega)]
 have hg:gotV (putV ⟨(a:Int),(b:Int),l,s⟩++ex)=⟨(a:Int),(b:Int),l,s⟩:=by
  unfold gotV;rw[G1,G2,G3,G4]
  dsimp only
  rw[lnkN_full hl]
 refine⟨hg,?_⟩;unfold okV9;rw[hg,G4,h,Bool.and_true]
theorem frontV_ok {x:Vt} (h:mayVo x=true) (hl:x.l.length=32):gotV (putV x)=x∧okV9 (putV x)=true:=by
 have:=frontV [] h hl;rw[List.append_nil] at this;exact⟨this.1,this.2.trans rfl⟩
structure Vv where
 p:Int
 f:Int
 l:List Nat
 A:Option Addr
 c:Nat
 s:List Nat
def vv (x:Vv):List Value:= .int .i64 x.p:: .int .i64 x.f::(u8s x.l++[.slice x.A x.s.length x.c])
def Vv.vt (x:Vv):Vt:=⟨x.p,x.f,x.l,x.s⟩
structure VvW (W:World) (x:Vv):Prop where
 ll:x.l.length=32
 lb:Bytes x.l
 s:Sr W x.A x.s
 sb:Bytes x.s
 sn:x.s.length≤1000000
theorem VvW.below {W W':World} {x:Vv} (h:VvW W x) (hb:Below W.heap.size W W'):VvW W' x:=⟨h.ll,h.lb,h.s.below hb,h.sb,h.sn⟩
theorem vv_len {x:Vv} (h:x.l.length=32):(vv x).length=35:=by simp[vv,u8s,h]
theorem vv_size {x:Vv} (h:x.l.length=32):(Tryz.prog.info? 33).map (·.size)=some (vv x).length:=by
 rw[vv_len h]
 kernel_rfl
theorem vv_one (x:Vv):(vv x).toArray.all (·.oneCell')=true:=by
 have h:=u8s_one x.l;rw[List.all_toArray] at h;simp only[vv,List.all_toArray,List.all_cons,List.all_append,List.all_nil,Bool.and_true];rw[h];rfl
theorem vv_cells {W:World} {g:Nat} {t:TypeId} {x:Vv} (h:Blk W g t (vv x)) (hl:x.l.length=32):W.cell? ⟨g,0,none⟩=some (.int .i64 x.p)∧W.cell? ⟨g,1,none⟩=some (.int .i64 x.f)∧W.cell? ⟨g,34,none⟩=some (.slice x.A x.s.length x.c):=by
 refine⟨h.cell 0,h.cell 1,?_⟩;have h34:=h.cell 34;rw[h34]
 show(u8s x.l++[Value.slice x.A x.s.length x.c])[32]? =_
 rw[List.getElem?_append_right (by rw[u8s_length,hl];exact Nat.le_refl _),u8s_length,hl];rfl
theorem vv_link {W:World} {g:Nat} {t:TypeId} {x:Vv} (h:Blk W g t (vv x)):Sr W (some ⟨g,2,none⟩) x.l:=λ_=>⟨g,2,rfl,h.lt,λj hj=>by
 have h34:=h.cell (2+j);rw[h34,show 2+j=j+1+1 by omega]
 show(u8s x.l++[Value.slice x.A x.s.length x.c])[j]? =_
 rw[List.getElem?_append_left (by rw[u8s_length];exact hj)];exact u8s_get _ _ hj⟩
structure VB (w0 W:World) (x:Vv):Prop where
 a:Blk W w0.heap.size 33 (vv x)
 rx:VvW W x
 bel:Below w0.heap.size w0 W
theorem VB.below {w0 W W':World} {x:Vv} (h:VB w0 W x) (hb:Below W.heap.size W W'):VB w0 W' x:=⟨h.a.below hb h.a.lt,h.rx.below hb,h.bel.trans (hb.mono h.bel.size)⟩
theorem VB.new {w:World} {x:Vv} (h:VvW w x):VB w (w.alloc (.cells (vv x).toArray 33)) x:=by
 have b1:=(Below.refl w.heap.size w).alloc (Nat.le_refl _) (.cells (vv x).toArray 33);exact⟨Blk.new w 33 (vv x),h.below b1,b1⟩
set_option maxHeartbeats 1000000 in
theorem vMayPut_t (x:Vv) (w:World) (h:VvW w x):
  Calls Tryz.prog 46 #[.agg (vv x).toArray] w λe w'=>e= .returned (.bool (mayVo x.vt))∧Below w.heap.size w w':=by
 have S0:=hid (VB.new h);have HM:=hid (show mayVo x.vt=((decide (0≤x.p) && decide (x.p≤1048576)) && ((decide (0≤x.f) && decide (x.f≤6)) && decide (x.s.length≤9000))) from rfl);obtain⟨r,hr⟩:∃ r,mayVo x.vt=r:=⟨_,rfl⟩;rw[hr] at HM ⊢;clear h hr
 go_enter Tryz.func46,Tryz.ntmps46
 go_upto_region 1 with(fail)
 refine world_at (λY=>VB w Y x) S0.out ?_
 rintro V s1
 have S1:=hid s1;clear s1 S0;obtain⟨c0,c1,c34⟩:=vv_cells S1.out.a S1.out.rx.ll
 by_cases p0:0≤x.p
 ·by_cases p1:x.p≤1048576
  ·by_cases f0:0≤x.f
   ·by_cases f1:x.f≤6
    ·by_cases s9:x.s.length≤9000
     ·have i9:(x.s.length:Int)≤9000:=by omega
      have hr:r=true:=by rw[HM.out,decide_eq_true p0,decide_eq_true p1,decide_eq_true f0,decide_eq_true f1,decide_eq_true s9];rfl
      go_wp2_with fail
      go_ret;subst hr;exact⟨rfl,S1.out.bel⟩
     ·have i9:¬ ((x.s.length:Int)≤9000):=by omega
      have hr:r=false:=by rw[HM.out,decide_eq_false s9,Bool.and_false,Bool.and_false]
      go_wp2_with fail
      go_ret;subst hr;exact⟨rfl,S1.out.bel⟩
    ·have hr:r=false:=by rw[HM.out,decide_eq_false f1,Bool.and_false,Bool.false_and,Bool.and_false]
     go_wp2_with fail
     go_ret;subst hr;exact⟨rfl,S1.out.bel⟩
   ·have hr:r=false:=by rw[HM.out,decide_eq_false f0,Bool.false_and,Bool.false_and,Bool.and_false]
    go_wp2_with fail
    go_ret;subst hr;exact⟨rfl,S1.out.bel⟩
  ·have hr:r=false:=by rw[HM.out,decide_eq_false p1,Bool.and_false,Bool.false_and]
   go_wp2_with fail
   go_ret;subst hr;exact⟨rfl,S1.out.bel⟩
 ·have hr:r=false:=by rw[HM.out,decide_eq_false p0,Bool.false_and,Bool.false_and]
  go_wp2_with fail
  go_ret;subst hr;exact⟨rfl,S1.out.bel⟩
theorem vWritten_t (F:FuncId) (C:Array Value) (l:List Nat) (w:World) (hcf:∀ args W,(callFunc F args).run Tryz.prog W= .ok (.enter F args) W) (hl:l.length≤70368744177664)
  (hcall:Calls Tryz.prog F (#[.pointer (some ⟨w.heap.size,0,none⟩)]++C) (w.alloc (.cells #[.pointer none,.int .i64 0] 119)) λe W'=>e= .returned (.tuple #[])∧Wr W' (λk=>w.heap.size≤k) w.heap.size l∧Below w.heap.size w W'):
  Calls Tryz.prog 39 #[.func (.func F) #[] C] w λe w'=>∃ u,e= .returned u∧Fresh 5 w w' u l:=by
 have HC:=hid hcall;have HL:=hid hl;clear hcall hl
 go_enter Tryz.func39,Tryz.ntmps39
 go_wp2_with fail
 refine HC.out.mono ?_
 rintro e w3 ⟨rfl,x3,b3⟩
 have X3:=hid x3;have B3:=hid b3;clear HC x3 b3;go_wp2_with fail
 refine(wbytes_t _ w.heap.size l w3 X3.out HL.out).mono ?_
 rintro e w9 ⟨v,rfl,fr⟩
 have FR:=hid (show Fresh 5 w w9 v l from⟨own_base fr.1 (λk hk=>Nat.le_trans B3.out.size (fr.1.lt k hk).1),B3.out.trans (fr.2.mono B3.out.size)⟩);clear fr X3;go_wp2_with fail
 go_ret;exact⟨v,rfl,FR.out⟩
structure QV (w0 w2 W:World) (x:Vv) (l:List Nat):Prop where
 wr:Wr W (λk=>w2.heap.size≤k) w2.heap.size l
 box:Blk W w0.heap.size 33 (vv x)
 lo:w0.heap.size<w2.heap.size
 r2:VvW w2 x
 b2:Below w2.heap.size w2 W
theorem QV.step {w0 w2 W W':World} {x:Vv} {l l':List Nat} (h:QV w0 w2 W x l) (hw:Wr W' (λk=>w2.heap.size≤k) w2.heap.size l') (hb:Below w2.heap.size W W'):QV w0 w2 W' x l':=
 ⟨hw,h.box.below hb h.lo,h.lo,h.r2,h.b2.trans hb⟩
set_option maxHeartbeats 1000000 in
theorem vPut1_t (x:Vv) (w0 w2 W:World) (h:QV w0 w2 W x []) (hm:mayVo x.vt=true):
  Calls Tryz.prog 47 #[.pointer (some ⟨w2.heap.size,0,none⟩),.pointer (some ⟨w0.heap.size,0,none⟩)] W λe W'=>e= .returned (.tuple #[])∧Wr W' (λk=>w2.heap.size≤k) w2.heap.size (putV x.vt)∧Below w2.heap.size w2 W':=by
 obtain⟨h1,h2,h3,h4,h5⟩:=mayVo_h hm;obtain⟨a,ha⟩:∃ a:Nat,x.p=(a:Int):=⟨x.p.toNat,by have h1:0≤x.p:=h1;omega⟩;obtain⟨b,hb⟩:∃ a:Nat,x.f=(a:Int):=⟨x.f.toNat,by have h3:0≤x.f:=h3;omega⟩;have a9:a≤1048576:=by have h2:x.p≤1048576:=h2;omega
 have b9:b≤6:=by have h4:x.f≤6:=h4;omega
 have S9:=hid (show x.s.length≤9000 from h5);have E:=hid (show putV x.vt=((beN a 4++beN b 1)++x.l)++txtN x.s from by
  show beN x.p.toNat 4++(beN x.f.toNat 1++(x.l++txtN x.s))=_
  rw[ha,hb];simp only[Int.toNat_natCast,List.append_assoc])
 obtain⟨xs,hxs⟩:∃ l,putV x.vt=l:=⟨_,rfl⟩;rw[hxs] at E ⊢;have RC:=hid (λ(W:World) (hb:Blk W w0.heap.size 33 (vv x))=>vv_cells hb h.r2.ll);rw[ha,hb] at RC;have LL:=hid h.r2.ll;have i1:IntKind.u64.wrap (a:Int)=(a:Int):=IntWalk.u64_in _ (by omega);have i2:IntKind.u64.wrap (b:Int)=(b:Int):=IntWalk.u64_in _ (by omega);have P0:=hid h;clear h hm h1 h2 h3 h4 h5 ha hb hxs
 go_enter Tryz.func47,Tryz.ntmps47
 obtain⟨c0,_,_⟩:=RC.out _ P0.out.box;go_wp2_with fail
 refine(num_s a 4 P0.out.wr (Below.refl _ _) P0.out.b2.size (by omega) (by decide) (by decide) (by simp)).mono ?_
 rintro e w3 ⟨rfl,x2,b2⟩
 have P3:=hid (P0.out.step x2 b2);clear x2 b2 P0;rw[List.nil_append] at P3;clear c0;obtain⟨_,c1,_⟩:=RC.out _ P3.out.box;go_wp2_with fail
 refine(num_s b 1 P3.out.wr (Below.refl _ _) P3.out.b2.size (by omega) (by decide) (by decide) (by rw[beN_length];omega)).mono ?_
 rintro e w4 ⟨rfl,x2,b2⟩
 have P4:=hid (P3.out.step x2 b2);clear x2 b2 P3;clear c1 i1 i2;have SL:=hid (vv_link P4.out.box);have RW_:=hid (raw_s x.l (some ⟨w0.heap.size,2,none⟩) 32 32 P4.out.wr (Below.refl _ _) P4.out.b2.size LL.out SL.out (by simp only[List.length_append,beN_length];omega));go_wp2_with fail
 refine RW_.out.mono ?_
 rintro e w5 ⟨rfl,x5,b5⟩
 have P5:=hid (P4.out.step x5 b5);clear x5 b5 RW_ SL P4;obtain⟨_,_,c34⟩:=RC.out _ P5.out.box;have TX:=hid (text_s x.s x.A x.s.length x.c P5.out.wr (Below.refl _ _) P5.out.b2.size rfl (P5.out.r2.s.below P5.out.b2) (λhx a ha=> .inl (P5.out.r2.s.lt hx a ha)) (by simp only[List.length_append,beN_length,LL.out];have:=S9.out;omega));go_wp2_with fail
 refine TX.out.mono ?_
 rintro e w6 ⟨rfl,x6,b6⟩
 have P6:=hid (P5.out.step x6 b6);rw[←E.out] at P6;clear x6 b6 TX P5 c34;go_wp2_with fail
 go_end0
 exact⟨rfl,P6.out.wr,P6.out.b2⟩
theorem putV_le {x:Vt} (hl:x.l.length=32):(putV x).length=41+x.s.length:=by
 unfold putV txtN;simp only[List.length_append,beN_length,hl];omega
def erV (x:Vv):Int:=if mayVo x.vt then 0 else 1
def byV (x:Vv):List Nat:=if mayVo x.vt then putV x.vt else[]
set_option maxHeartbeats 1000000 in
theorem vPut_t (x:Vv) (w:World) (h:VvW w x):
  Calls Tryz.prog 22 #[.agg (vv x).toArray] w λe w'=>∃ u,e= .returned (.tuple #[u,.int .i64 (erV x)])∧Fresh 5 w w' u (byV x):=by
 have S0:=hid (VB.new h);have FG:=hid (vv_size h.ll);unfold erV byV;obtain⟨mb,hmb⟩:∃ b,mayVo x.vt=b:=⟨_,rfl⟩;have HM:=hid hmb;rw[hmb];clear h hmb;have hmf:∀ (fn:Fn) (first cap:Array Value) (w:World),(Instr.makeFunc fn first cap).run Tryz.prog w= .ok (.func fn first cap) w:=λ_ _ _ _=>rfl
 go_enter Tryz.func22,Tryz.ntmps22
 go_upto_region 1 with(fail)
 refine world_at (λY=>VB w Y x) S0.out ?_
 rintro V s1
 have S1:=hid s1;clear s1 S0;have MT:=hid (vMayPut_t x V S1.out.rx);rw[HM.out] at MT;have GA:=hid S1.out.a
 go_wp2_with ((with_reducible refine load_blk 33 (.tmp 1) w.heap.size 33 (vv x) _ rfl rfl ?_ Tryz.underlying33 ?_ ?_ ?_ ?_);exact GA.out;exact rfl;exact FG.out;exact rfl)
 refine MT.out.mono ?_
 rintro e w1 ⟨rfl,b1⟩
 have S2:=hid (S1.out.below b1);clear S1 MT b1 GA
 cases mb with
 |false=>
  go_wp2_with fail
  go_ret2;exact⟨.slice none 0 0,rfl,nil_own _ _,S2.out.bel⟩
 |true=>
  have CALL:=hid (vPut1_t x w w1 _ ⟨Wr.new,(S2.out.a).alloc _,S2.out.a.lt,S2.out.rx,(Below.refl _ _).alloc (Nat.le_refl _) _⟩ HM.out);have HLE:=hid (show(putV x.vt).length≤70368744177664 from by
   have h1:=(mayVo_h HM.out).2.2.2.2;rw[putV_le S2.out.rx.ll];have h1:x.s.length≤9000:=h1
   show 41+x.s.length≤_
   omega)
  have WT:=hid (vWritten_t 47 #[.pointer (some ⟨w.heap.size,0,none⟩)] (putV x.vt) w1 (enters_of Tryz.func47 (by kernel_rfl) rfl) HLE.out CALL.out);clear CALL HLE;go_wp2_with fail
  refine WT.out.mono ?_
  rintro e w2 ⟨u,rfl,fr⟩
  have FR:=hid (show Fresh 5 w w2 u (putV x.vt) from⟨own_base fr.1 (λk hk=>Nat.le_trans S2.out.bel.size (fr.1.lt k hk).1),S2.out.bel.trans (fr.2.mono S2.out.bel.size)⟩);clear fr WT S2;go_wp2_with fail
  go_ret2;exact⟨u,rfl,FR.out⟩
end Go.Proofs.YtjlophplcmidlaaGreatDoor
