/-
  '[]byte' of a constant, wherever its row lies
  THE REFERENCE OF CHAPTER 13
-/
import Derived.Test.YtjlophplcmidlaaGreatDoorAb2
import Derived.Lib.SlBytesConst
import Derived.Test.YtjlophplcmidlaaGreatDoorAb36
import Derived.Test.YtjlophplcmidlaaGreatDoorTk
open Go.Lib (hid)
set_option maxRecDepth 100000
namespace Go.Proofs.YtjlophplcmidlaaGreatDoor
open Go Go.RowKit Sh
theorem frz_run {P:Program} (W:World) (t e:TypeId) (g:Nat) (C:Array Value) (n c:Nat) (ht:P.underlying t=some (.slice e)) (he:P.underlying e=some (.int .u8)) (hg:W.heap[g]? =some (.cells C e)):
  ∃ W',(convert t t (.slice (some ⟨g,0,none⟩) n c)).run P W= .ok (.slice (some ⟨g,0,none⟩) n c) W'∧W'.heap[g]? =some (.cells C e (C.size,C.size+1))∧Kept (λk=>k=g) W W':=by
 have hsh:W.shape? g=some (e,C.size):=by unfold World.shape?;rw[hg]
 refine⟨W.freeze ⟨g,C.size,none⟩ 1,?_,?_,?_⟩
 ·simp[convert,run_underlying ht,run_underlying he,markStringish,hsh]
 ·unfold World.freeze;rw[if_neg (by decide)]
  show(W.heap.modify g _)[g]? =_
  rw[Array.getElem?_modify,if_pos rfl,hg];rfl
 ·unfold World.freeze;rw[if_neg (by decide)];refine⟨rfl,rfl,rfl,?_,λk _ hf=>?_⟩
  ·show W.heap.size≤(W.heap.modify g _).size
   rw[Array.size_modify];exact Nat.le_refl _
  ·show(W.heap.modify g _)[k]? =_
   rw[Array.getElem?_modify,if_neg (λe=>hf e.symm)]
theorem sr_marked {W:World} {g:Nat} {xs:List Nat} {e:TypeId} {fr:Nat×Nat} (h:W.heap[g]? =some (.cells (u8s xs).toArray e fr)):Sr W (some ⟨g,0,none⟩) xs:=λ_=>by
 have hl:g<W.heap.size:=by
  rcases Nat.lt_or_ge g W.heap.size with h1 |h1
  ·exact h1
  ·rw[Array.getElem?_eq_none h1] at h;cases h
 refine⟨g,0,rfl,hl,λj hj=>?_⟩;rw[Nat.zero_add];unfold World.cell?;simp only[h]
 simpa using u8s_get xs j hj
structure TX (w0 W:World) (a l:List Nat):Prop where
 a:Blk W w0.heap.size 23 (u8s a)
 l:Blk W (w0.heap.size+1) 23 (u8s l)
 bel:Below w0.heap.size w0 W
theorem TX.below {w0 W W':World} {a l:List Nat} (h:TX w0 W a l) (hb:Below W.heap.size W W'):TX w0 W' a l:=⟨h.a.below hb h.a.lt,h.l.below hb h.l.lt,h.bel.trans (hb.mono h.bel.size)⟩
theorem cat_textX (a l:List Nat) (q:Nat) (p1 p2 p3 p4:Option Addr) (c1 c2 c3 c4:Nat):catK [⟨p1,c1,[86,79,84,69]⟩,⟨p2,c2,a⟩,⟨p3,c3,beN q 4⟩,⟨p4,c4,l⟩]=[86,79,84,69]++a++beN q 4++l:=by simp[catK]
set_option maxHeartbeats 2000000 in
theorem refText_t (a l:List Nat) (q:Nat) (w:World) (ha:a.length=32) (hl:l.length=32) (hq:q≤1048576):
  Calls Tryz.prog 16 #[.agg (u8s a).toArray,.int .i64 (q:Int),.agg (u8s l).toArray] w λe w'=>∃ u,e= .returned u∧Fresh 5 w w' u ([86,79,84,69]++a++beN q 4++l):=by
 have HCE:=hid (λp1 p2 p3 p4 c1 c2 c3 c4=>cat_textX a l q p1 p2 p3 p4 c1 c2 c3 c4);have HTL:=hid (show([86,79,84,69]++a++beN q 4++l).length=72 by simp only[List.length_append,ha,hl,beN_length];rfl);obtain⟨T,hT⟩:∃ T,[86,79,84,69]++a++beN q 4++l=T:=⟨_,rfl⟩;rw[hT] at HTL ⊢;simp only[hT] at HCE;clear hT;have i1:IntKind.u64.wrap (q:Int)=(q:Int):=IntWalk.u64_in _ (by omega);have HA:=hid ha;have HL:=hid hl;have X0:=hid (show TX w ((w.alloc (.cells (u8s a).toArray 23)).alloc (.cells (u8s l).toArray 23)) a l from
  ⟨(Blk.new w 23 (u8s a)).alloc _,Blk.new2 w _ 23 (u8s l),((Below.refl _ _).alloc (Nat.le_refl _) _).alloc (by simp) _⟩)
 clear ha hl
 go_enter Tryz.func16,Tryz.ntmps16
 go_upto_region 1 with(fail)
 refine world_is (λW=>TX w W a l) X0.out ?_
 rintro W x1
 have X1:=hid (x1.below (show Below W.heap.size W W.drew from(Below.refl _ _).drew));clear x1 X0;refine wp_region_held (S:=λ_=>True) (by kernel_rfl) ?_;change wpAnyH _ _ _ _ _ _ _ _ W.drew;obtain⟨V,hV⟩:∃ V,W.drew=V:=⟨_,rfl⟩;rw[hV] at X1 ⊢;clear hV;refine tka9 2 trivial ?_;refine tka9 3 trivial ?_;refine tka9 4 trivial ?_;refine tka9 6 trivial ?_;refine wpAnyH_ready (rs:=[0,5]) (by kernel_rfl) (by simp) ?_;refine AllReadyH.cons rfl (λK hK=>?_) (AllReadyH.cons rfl (λK hK=>?_) AllReadyH.nil)
 ·skip
  go_simp;have bg:=Blk.new V 5 (u8s [86,79,84,69]);have bq:=(Below.refl (V).heap.size V).alloc (Nat.le_refl _) (.cells (u8s [86,79,84,69]).toArray 5);have X2:=hid (X1.out.below bq);refine hK.out _ _ trivial (λ_=>?_);clear hK K;change wpAnyH _ _ _ _ _ _ _ _ ((V).alloc (.cells (u8s [86,79,84,69]).toArray 5));obtain⟨U,hU⟩:∃ U,(V).alloc (.cells (u8s [86,79,84,69]).toArray 5)=U:=⟨_,rfl⟩;rw[hU] at bg bq X2 ⊢;obtain⟨gl,hgl⟩:∃ z,(V).heap.size=z:=⟨_,rfl⟩;rw[hgl] at bg ⊢;have BG:=hid bg;have BQ:=hid bq;have HGL:=hid (show w.heap.size+1<gl from by rw[←hgl];exact X1.out.l.lt);have HGE:=hid hgl;clear bg bq hU hgl X1;refine wpAnyH_ready (rs:=[1,5]) (by kernel_rfl) (by simp) ?_;refine AllReadyH.cons rfl (λK hK=>?_) (AllReadyH.cons rfl (λK hK=>?_) AllReadyH.nil)
  ·skip
   obtain⟨Y,hr,hg,hk⟩:=frz_run (P:=Tryz.prog) U 25 5 gl (u8s [86,79,84,69]).toArray 4 4 Tryz.underlying25 Tryz.underlying5 BG.out;go_simp;have SL:=hid (sr_marked hg);have X3:=hid (show TX w Y a l from⟨X2.out.a.kept hk (by have:=HGL.out;omega),X2.out.l.kept hk (by have:=HGL.out;omega),⟨hk.os.trans X2.out.bel.os,hk.tape.trans X2.out.bel.tape,hk.output.trans X2.out.bel.output,Nat.le_trans X2.out.bel.size hk.size,λk h=>(hk.block k (Nat.lt_of_lt_of_le h X2.out.bel.size) (by have:=HGL.out;omega)).trans (X2.out.bel.block k h)⟩⟩);refine hK.out _ _ trivial (λ_=>?_);clear hK K hr hg hk BG BQ X2;refine rd9 5 λK hK=>?_
   go_simp;refine(refnum_t q 4 Y (by decide) (by decide)).mono ?_
   rintro e w5 ⟨u5,rfl,f5⟩
   obtain⟨An,cn,rfl,hcn,sn,b5⟩:=fresh_opK f5;rw[beN_length] at hcn ⊢;have X5:=hid (X3.out.below b5);have SN:=hid sn;have SL:=hid (SL.out.below b5);refine hK.out _ _ trivial (λ_=>?_);clear hK K f5 hcn sn b5 X3;have bx:=(Below.refl (w5).heap.size w5).alloc (Nat.le_refl _) (.cells (partsK [⟨some ⟨gl,0,none⟩,4,[86,79,84,69]⟩,⟨some ⟨w.heap.size,0,none⟩,32,a⟩,⟨An,cn,beN q 4⟩,⟨some ⟨w.heap.size+1,0,none⟩,32,l⟩]).toArray 25);have XB7:=hid (X5.out.below bx);have SX:=hid (show ∀ z∈([⟨some ⟨gl,0,none⟩,4,[86,79,84,69]⟩,⟨some ⟨w.heap.size,0,none⟩,32,a⟩,⟨An,cn,beN q 4⟩,⟨some ⟨w.heap.size+1,0,none⟩,32,l⟩]:List PartK),Sr ((w5).alloc (.cells (partsK [⟨some ⟨gl,0,none⟩,4,[86,79,84,69]⟩,⟨some ⟨w.heap.size,0,none⟩,32,a⟩,⟨An,cn,beN q 4⟩,⟨some ⟨w.heap.size+1,0,none⟩,32,l⟩]).toArray 25)) z.A z.X by
    intro z hz;simp only[List.mem_cons,List.not_mem_nil,or_false] at hz;rcases hz with rfl |rfl |rfl |rfl
    ·exact SL.out.below bx
    ·exact(Sr.of_blk (rest:=[]) X5.out.a (by simp)).below bx
    ·exact SN.out.below bx
    ·exact(Sr.of_blk (rest:=[]) X5.out.l (by simp)).below bx)
   have BKP:=hid (Blk.new w5 25 (partsK [⟨some ⟨gl,0,none⟩,4,[86,79,84,69]⟩,⟨some ⟨w.heap.size,0,none⟩,32,a⟩,⟨An,cn,beN q 4⟩,⟨some ⟨w.heap.size+1,0,none⟩,32,l⟩]));have HCX:=hid (HCE.out (some ⟨gl,0,none⟩) (some ⟨w.heap.size,0,none⟩) An (some ⟨w.heap.size+1,0,none⟩) 4 32 cn 32);have HPV:=hid (show partsK [⟨some ⟨gl,0,none⟩,4,[86,79,84,69]⟩,⟨some ⟨w.heap.size,0,none⟩,32,a⟩,⟨An,cn,beN q 4⟩,⟨some ⟨w.heap.size+1,0,none⟩,32,l⟩]=[.slice (some ⟨gl,0,none⟩) 4 4,.slice (some ⟨w.heap.size,0,none⟩) 32 32,.slice An 4 cn,.slice (some ⟨w.heap.size+1,0,none⟩) 32 32] by simp only[partsK,List.map_cons,List.map_nil,beN_length,HA.out,HL.out];rfl);rw[HPV.out] at XB7 SX BKP;clear bx SL SN X5;refine rd9 7 λK hK=>?_
   go_simp;refine hK.out _ _ trivial (λ_=>?_);clear hK K;refine rd9 8 λK hK=>?_
   go_simp;refine(catK_t [⟨some ⟨gl,0,none⟩,4,[86,79,84,69]⟩,⟨some ⟨w.heap.size,0,none⟩,32,a⟩,⟨An,cn,beN q 4⟩,⟨some ⟨w.heap.size+1,0,none⟩,32,l⟩] (w5).heap.size 4 4 25 _ rfl (by rw[HPV.out];exact BKP.out) SX.out (by rw[HCX.out,HTL.out];decide) (by decide)).mono ?_
   rintro e w9 ⟨v9,rfl,f9⟩
   rw[HCX.out] at f9;have F9:=hid (show Fresh 5 w w9 v9 T from⟨own_base f9.1 (λk e=>Nat.le_trans XB7.out.bel.size (f9.1.lt k e).1),XB7.out.bel.trans (f9.2.mono XB7.out.bel.size)⟩);clear f9 SX BKP HPV XB7;refine hK.out _ _ trivial (λ_=>?_);clear hK K;refine tka9 9 trivial ?_;refine wpAnyH_done (by kernel_rfl) ?_ _;go_simp;go_wp2_with fail
   go_ret;exact⟨v9,rfl,F9.out⟩
  ·skip
   go_simp;refine(refnum_t q 4 U (by decide) (by decide)).mono ?_
   rintro e w5 ⟨u5,rfl,f5⟩
   obtain⟨An,cn,rfl,hcn,sn,b5⟩:=fresh_opK f5;have hab:∀ ad:Addr,An=some ad→U.heap.size≤ad.block:=λad e=>by subst e;exact(f5.1.lt ad.block rfl).1
   have hgu:=BG.out.lt;rw[beN_length] at hcn ⊢;have X5:=hid (X2.out.below b5);have BG:=hid (BG.out.below b5 BG.out.lt);refine hK.out _ _ trivial (λ_=>?_);clear hK K f5 hcn b5 X2 BQ;refine rd9 1 λK hK=>?_
   obtain⟨Y,hr,hg,hk⟩:=frz_run (P:=Tryz.prog) w5 25 5 gl (u8s [86,79,84,69]).toArray 4 4 Tryz.underlying25 Tryz.underlying5 BG.out;go_simp;have SL:=hid (sr_marked hg);have X6:=hid (show TX w Y a l from⟨X5.out.a.kept hk (by have:=HGL.out;omega),X5.out.l.kept hk (by have:=HGL.out;omega),⟨hk.os.trans X5.out.bel.os,hk.tape.trans X5.out.bel.tape,hk.output.trans X5.out.bel.output,Nat.le_trans X5.out.bel.size hk.size,λk h=>(hk.block k (Nat.lt_of_lt_of_le h X5.out.bel.size) (by have:=HGL.out;omega)).trans (X5.out.bel.block k h)⟩⟩);have SN:=hid (sn.kept hk (λ_ ad e q=>by have h1:=hab ad e;have h2:ad.block=gl:=q;omega));refine hK.out _ _ trivial (λ_=>?_);clear hK K hr hg hk BG X5 sn hab hgu;have bx:=(Below.refl (Y).heap.size Y).alloc (Nat.le_refl _) (.cells (partsK [⟨some ⟨gl,0,none⟩,4,[86,79,84,69]⟩,⟨some ⟨w.heap.size,0,none⟩,32,a⟩,⟨An,cn,beN q 4⟩,⟨some ⟨w.heap.size+1,0,none⟩,32,l⟩]).toArray 25);have XB7:=hid (X6.out.below bx);have SX:=hid (show ∀ z∈([⟨some ⟨gl,0,none⟩,4,[86,79,84,69]⟩,⟨some ⟨w.heap.size,0,none⟩,32,a⟩,⟨An,cn,beN q 4⟩,⟨some ⟨w.heap.size+1,0,none⟩,32,l⟩]:List PartK),Sr ((Y).alloc (.cells (partsK [⟨some ⟨gl,0,none⟩,4,[86,79,84,69]⟩,⟨some ⟨w.heap.size,0,none⟩,32,a⟩,⟨An,cn,beN q 4⟩,⟨some ⟨w.heap.size+1,0,none⟩,32,l⟩]).toArray 25)) z.A z.X by
    intro z hz;simp only[List.mem_cons,List.not_mem_nil,or_false] at hz;rcases hz with rfl |rfl |rfl |rfl
    ·exact SL.out.below bx
    ·exact(Sr.of_blk (rest:=[]) X6.out.a (by simp)).below bx
    ·exact SN.out.below bx
    ·exact(Sr.of_blk (rest:=[]) X6.out.l (by simp)).below bx)
   have BKP:=hid (Blk.new Y 25 (partsK [⟨some ⟨gl,0,none⟩,4,[86,79,84,69]⟩,⟨some ⟨w.heap.size,0,none⟩,32,a⟩,⟨An,cn,beN q 4⟩,⟨some ⟨w.heap.size+1,0,none⟩,32,l⟩]));have HCX:=hid (HCE.out (some ⟨gl,0,none⟩) (some ⟨w.heap.size,0,none⟩) An (some ⟨w.heap.size+1,0,none⟩) 4 32 cn 32);have HPV:=hid (show partsK [⟨some ⟨gl,0,none⟩,4,[86,79,84,69]⟩,⟨some ⟨w.heap.size,0,none⟩,32,a⟩,⟨An,cn,beN q 4⟩,⟨some ⟨w.heap.size+1,0,none⟩,32,l⟩]=[.slice (some ⟨gl,0,none⟩) 4 4,.slice (some ⟨w.heap.size,0,none⟩) 32 32,.slice An 4 cn,.slice (some ⟨w.heap.size+1,0,none⟩) 32 32] by simp only[partsK,List.map_cons,List.map_nil,beN_length,HA.out,HL.out];rfl);rw[HPV.out] at XB7 SX BKP;clear bx SL SN X6;refine rd9 7 λK hK=>?_
   go_simp;refine hK.out _ _ trivial (λ_=>?_);clear hK K;refine rd9 8 λK hK=>?_
   go_simp;refine(catK_t [⟨some ⟨gl,0,none⟩,4,[86,79,84,69]⟩,⟨some ⟨w.heap.size,0,none⟩,32,a⟩,⟨An,cn,beN q 4⟩,⟨some ⟨w.heap.size+1,0,none⟩,32,l⟩] (Y).heap.size 4 4 25 _ rfl (by rw[HPV.out];exact BKP.out) SX.out (by rw[HCX.out,HTL.out];decide) (by decide)).mono ?_
   rintro e w9 ⟨v9,rfl,f9⟩
   rw[HCX.out] at f9;have F9:=hid (show Fresh 5 w w9 v9 T from⟨own_base f9.1 (λk e=>Nat.le_trans XB7.out.bel.size (f9.1.lt k e).1),XB7.out.bel.trans (f9.2.mono XB7.out.bel.size)⟩);clear f9 SX BKP HPV XB7;refine hK.out _ _ trivial (λ_=>?_);clear hK K;refine tka9 9 trivial ?_;refine wpAnyH_done (by kernel_rfl) ?_ _;go_simp;go_wp2_with fail
   go_ret;exact⟨v9,rfl,F9.out⟩
 ·skip
  rw[if_pos (by kernel_rfl)];go_simp;refine(refnum_t q 4 V (by decide) (by decide)).mono ?_
  rintro e w5 ⟨u5,rfl,f5⟩
  obtain⟨An,cn,rfl,hcn,sn,b5⟩:=fresh_opK f5;rw[beN_length] at hcn ⊢;have X5:=hid (X1.out.below b5);have SN5:=hid sn;refine hK.out _ _ trivial (λ_=>?_);clear hK K f5 hcn sn b5 X1;refine rd9 0 λK hK=>?_
  go_simp;have bg:=Blk.new w5 5 (u8s [86,79,84,69]);have bq:=(Below.refl (w5).heap.size w5).alloc (Nat.le_refl _) (.cells (u8s [86,79,84,69]).toArray 5);have X6:=hid (X5.out.below bq);refine hK.out _ _ trivial (λ_=>?_);clear hK K;change wpAnyH _ _ _ _ _ _ _ _ ((w5).alloc (.cells (u8s [86,79,84,69]).toArray 5));obtain⟨U,hU⟩:∃ U,(w5).alloc (.cells (u8s [86,79,84,69]).toArray 5)=U:=⟨_,rfl⟩;rw[hU] at bg bq X6 ⊢;obtain⟨gl,hgl⟩:∃ z,(w5).heap.size=z:=⟨_,rfl⟩;rw[hgl] at bg ⊢;have BG:=hid bg;have BQ:=hid bq;have HGL:=hid (show w.heap.size+1<gl from by rw[←hgl];exact X5.out.l.lt);have HGE:=hid hgl;clear bg bq hU hgl X5;refine rd9 1 λK hK=>?_
  obtain⟨Y,hr,hg,hk⟩:=frz_run (P:=Tryz.prog) U 25 5 gl (u8s [86,79,84,69]).toArray 4 4 Tryz.underlying25 Tryz.underlying5 BG.out;go_simp;have SL:=hid (sr_marked hg);have X7:=hid (show TX w Y a l from⟨X6.out.a.kept hk (by have:=HGL.out;omega),X6.out.l.kept hk (by have:=HGL.out;omega),⟨hk.os.trans X6.out.bel.os,hk.tape.trans X6.out.bel.tape,hk.output.trans X6.out.bel.output,Nat.le_trans X6.out.bel.size hk.size,λk h=>(hk.block k (Nat.lt_of_lt_of_le h X6.out.bel.size) (by have:=HGL.out;omega)).trans (X6.out.bel.block k h)⟩⟩);have SN:=hid ((SN5.out.below BQ.out).kept hk (λhx ad e q=>by have h1:=SN5.out.lt hx ad e;have h2:ad.block=gl:=q;have h3:=HGE.out;omega));refine hK.out _ _ trivial (λ_=>?_);clear hK K hr hg hk BG BQ X6 SN5;have bx:=(Below.refl (Y).heap.size Y).alloc (Nat.le_refl _) (.cells (partsK [⟨some ⟨gl,0,none⟩,4,[86,79,84,69]⟩,⟨some ⟨w.heap.size,0,none⟩,32,a⟩,⟨An,cn,beN q 4⟩,⟨some ⟨w.heap.size+1,0,none⟩,32,l⟩]).toArray 25);have XB7:=hid (X7.out.below bx);have SX:=hid (show ∀ z∈([⟨some ⟨gl,0,none⟩,4,[86,79,84,69]⟩,⟨some ⟨w.heap.size,0,none⟩,32,a⟩,⟨An,cn,beN q 4⟩,⟨some ⟨w.heap.size+1,0,none⟩,32,l⟩]:List PartK),Sr ((Y).alloc (.cells (partsK [⟨some ⟨gl,0,none⟩,4,[86,79,84,69]⟩,⟨some ⟨w.heap.size,0,none⟩,32,a⟩,⟨An,cn,beN q 4⟩,⟨some ⟨w.heap.size+1,0,none⟩,32,l⟩]).toArray 25)) z.A z.X by
   intro z hz;simp only[List.mem_cons,List.not_mem_nil,or_false] at hz;rcases hz with rfl |rfl |rfl |rfl
   ·exact SL.out.below bx
   ·exact(Sr.of_blk (rest:=[]) X7.out.a (by simp)).below bx
   ·exact SN.out.below bx
   ·exact(Sr.of_blk (rest:=[]) X7.out.l (by simp)).below bx)
  have BKP:=hid (Blk.new Y 25 (partsK [⟨some ⟨gl,0,none⟩,4,[86,79,84,69]⟩,⟨some ⟨w.heap.size,0,none⟩,32,a⟩,⟨An,cn,beN q 4⟩,⟨some ⟨w.heap.size+1,0,none⟩,32,l⟩]));have HCX:=hid (HCE.out (some ⟨gl,0,none⟩) (some ⟨w.heap.size,0,none⟩) An (some ⟨w.heap.size+1,0,none⟩) 4 32 cn 32);have HPV:=hid (show partsK [⟨some ⟨gl,0,none⟩,4,[86,79,84,69]⟩,⟨some ⟨w.heap.size,0,none⟩,32,a⟩,⟨An,cn,beN q 4⟩,⟨some ⟨w.heap.size+1,0,none⟩,32,l⟩]=[.slice (some ⟨gl,0,none⟩) 4 4,.slice (some ⟨w.heap.size,0,none⟩) 32 32,.slice An 4 cn,.slice (some ⟨w.heap.size+1,0,none⟩) 32 32] by simp only[partsK,List.map_cons,List.map_nil,beN_length,HA.out,HL.out];rfl);rw[HPV.out] at XB7 SX BKP;clear bx SL SN X7;refine rd9 7 λK hK=>?_
  go_simp;refine hK.out _ _ trivial (λ_=>?_);clear hK K;refine rd9 8 λK hK=>?_
  go_simp;refine(catK_t [⟨some ⟨gl,0,none⟩,4,[86,79,84,69]⟩,⟨some ⟨w.heap.size,0,none⟩,32,a⟩,⟨An,cn,beN q 4⟩,⟨some ⟨w.heap.size+1,0,none⟩,32,l⟩] (Y).heap.size 4 4 25 _ rfl (by rw[HPV.out];exact BKP.out) SX.out (by rw[HCX.out,HTL.out];decide) (by decide)).mono ?_
  rintro e w9 ⟨v9,rfl,f9⟩
  rw[HCX.out] at f9;have F9:=hid (show Fresh 5 w w9 v9 T from⟨own_base f9.1 (λk e=>Nat.le_trans XB7.out.bel.size (f9.1.lt k e).1),XB7.out.bel.trans (f9.2.mono XB7.out.bel.size)⟩);clear f9 SX BKP HPV XB7;refine hK.out _ _ trivial (λ_=>?_);clear hK K;refine tka9 9 trivial ?_;refine wpAnyH_done (by kernel_rfl) ?_ _;go_simp;go_wp2_with fail
  go_ret;exact⟨v9,rfl,F9.out⟩
end Go.Proofs.YtjlophplcmidlaaGreatDoor
