/-
  chirographlaw13
  told of layer 4
  LmsPaths walked
-/
import Derived.Test.YtjlophplcmidlaaGreatDoorAd5
import Derived.Test.YtjlophplcmidlaaGreatDoorAd29
import Derived.Test.YtjlophplcmidlaaGreatDoorAd22
import Derived.Test.YtjlophplcmidlaaGreatDoorAd31
import Derived.Test.YtjlophplcmidlaaGreatDoorAd9
import Derived.Test.YtjlophplcmidlaaGreatDoorAd34
import Derived.Test.YtjlophplcmidlaaGreatDoorTk
open Go.Lib (hid)
set_option maxRecDepth 100000
namespace Go.Proofs.YtjlophplcmidlaaGreatDoor
open Go Go.RowKit Sh
theorem fresh_opK {w w':World} {v:Value} {l:List Nat} (h:Fresh 5 w w' v l):∃ A c,v= .slice A l.length c∧l.length≤c∧Sr w' A l∧Below w.heap.size w w':=by
 obtain⟨A,c,rfl,hc⟩:=own_form h.1;exact⟨A,c,rfl,hc,Sr.of_own h.1,h.2⟩
structure PartK where
 A:Option Addr
 c:Nat
 X:List Nat
def partsK (l:List PartK):List Value:=l.map λx=> .slice x.A x.X.length x.c
def catK (l:List PartK):List Nat:=l.flatMap (·.X)
theorem catK_le (l:List PartK) (k:Nat):(catK (l.take k)).length≤(catK l).length:=by
 conv=>rhs;rw[←List.take_append_drop k l]
 unfold catK;rw[List.flatMap_append,List.length_append];omega
theorem catK_succ (l:List PartK) (k:Nat) (x:PartK) (h:l[k]? =some x):catK (l.take (k+1))=catK (l.take k)++x.X:=by
 obtain⟨hk,rfl⟩:=List.getElem?_eq_some_iff.1 h;unfold catK;rw[List.take_succ_eq_append_getElem hk,List.flatMap_append,List.flatMap_cons,List.flatMap_nil,List.append_nil]
set_option maxHeartbeats 400000 in
theorem catK_t (l:List PartK) (g n c:Nat) (t:TypeId) (w:World) (hn:l.length=n) (hb:Blk w g t (partsK l)) (hr:∀ x,x∈l→Sr w x.A x.X) (hl:(catK l).length≤1000000) (hn2:n≤100):
  Calls Tryz.prog 33 #[.slice (some ⟨g,0,none⟩) n c] w λe w'=>∃ v,e= .returned v∧Fresh 5 w w' v (catK l):=by
 have HB:=hid hb;have HR:=hid hr;have HL:=hid hl;have HN:=hid hn;have n1:(n:Int)≤100:=by omega
 clear hb hr hl hn
 go_enter Tryz.func33,Tryz.ntmps33
 go_wp2_with fail
 go_loopw [3,4] (λo i wr=>∃ k:Nat,k≤n∧i= .int .i64 k∧wr.ownsRow w.heap.size 5 1 o (catK (l.take k)).length (u8s (catK (l.take k)))∧Below w.heap.size w wr) (λ_ i _=>n- (intOf i).toNat)
 case atStart=>exact⟨0,by omega,rfl,by simpa [catK] using nil_own _ _,Below.refl _ _⟩
 case round=>
  obtain⟨k,hk,rfl,ho,hb⟩:=hrel
  by_cases hlt:k<n
  ·obtain⟨x,hx⟩:∃ x,l[k]? =some x:=⟨_,List.getElem?_eq_getElem (by rw[HN.out];exact hlt)⟩;have hs:=(HR.out x (List.mem_of_getElem? hx)).below hb;have h1:=catK_succ l k x hx;have h2:(catK (l.take k)).length+x.X.length≤1000000:=by
    have:=catK_le l (k+1);rw[h1,List.length_append] at this;exact Nat.le_trans this HL.out
   have c0:wr.cell? ⟨g,k,none⟩=some (.slice x.A x.X.length x.c):=by
    refine(hb.cell (p:=⟨g,k,none⟩) HB.out.lt).trans ?_;rw[HB.out.cell];simp[partsK,hx]
   obtain⟨A,cx,X⟩:=x;simp only[] at hs h1 h2 c0;obtain⟨Y,hY⟩:∃ Y,catK (l.take k)=Y:=⟨_,rfl⟩;rw[hY] at ho h1 h2;have HO:=hid ho;have HW:=hid hb;have HS:=hid hs;have H1:=hid h1;clear ho hb hs h1 hx hY
   go_wp2_with ((with_reducible refine at_op (.call { callee:= .builtin .append,args:= #[.tmp 11,.tmp 15],argTypes:= #[25,25] }) rfl ?_);refine append_bytes (.tmp 11) (.tmp 15) 25 rfl rfl 5 Tryz.underlying25 byte_info w.heap.size _ Y.length Y X rfl HO.out A X.length cx rfl rfl HS.out (by omega) HW.out.size ?_;intro v2 w2 a1 a2 a3)
   go_roundw
   case rel=>
    refine⟨k+1,by omega,by go_num,?_,HW.out.grown a2.out HW.out.size λi e=>(HO.out.lt i e).1⟩;rw[H1.out,List.length_append];exact a1.out
   case measure=>simp[intOf];omega
  ·obtain rfl:k=n:=by omega
   rw[List.take_of_length_le (by rw[HN.out];exact Nat.le_refl _)] at ho;have HO:=hid ho;have HW:=hid hb;clear ho hb;go_wp2_with fail
   go_ret;exact⟨_,rfl,HO.out,HW.out⟩
theorem khash_len (l:List Nat) (h:l.length=32):(u8s z32).length=(u8s l).length:=by rw[u8s_length,u8s_length,h];rfl
def kz48:List Nat:=List.replicate 48 0
theorem ksec_len (l:List Nat) (h:l.length=48):(u8s kz48).length=(u8s l).length:=by rw[u8s_length,u8s_length,h];rfl
def secT (x y:Nat):List Nat:=[115,101,99,114,101,116]++beN x 8++beN y 8
def secI (x y:Nat):List Nat:=(sum (secT x y)).take 16
def secS (x y:Nat):List Nat:=sum (sum (secT x y))
theorem secT_length (x y:Nat):(secT x y).length=22:=by simp[secT,beN_length]
theorem secT_bytes (x y:Nat):Bytes (secT x y):=app_bytes (app_bytes (sl_bytes (by decide)) (beN_bytes _ _)) (beN_bytes _ _)
theorem secI_length (x y:Nat):(secI x y).length=16:=by unfold secI;rw[List.length_take];rfl
theorem secS_length (x y:Nat):(secS x y).length=32:=rfl
theorem sec_two (x y:Nat):(secI x y++secS x y).length=48:=by rw[List.length_append,secI_length,secS_length]
theorem cat_secT (x y:Nat) (p q r:Option Addr) (a b c:Nat):catK [⟨p,a,[115,101,99,114,101,116]⟩,⟨q,b,beN x 8⟩,⟨r,c,beN y 8⟩]=secT x y:=by simp[catK,secT]
set_option maxHeartbeats 2000000 in
theorem ksec_t (a b:Int) (x y:Nat) (w:World) (hx:IntKind.u64.wrap a=(x:Int)) (hy:IntKind.u64.wrap b=(y:Int)):
  Calls Tryz.prog 13 #[.int .i64 a,.int .i64 b] w λe w'=>e= .returned (.agg (u8s (secI x y++secS x y)).toArray)∧Below w.heap.size w w':=by
 have HN:=hid (show(sum (secT x y)).length=32 from rfl);have HC1:=hid (secI_length x y);have HC2:=hid (secS_length x y);have HC3:=hid (sec_two x y);have HE1:=hid (show(sum (secT x y)).take 16=secI x y from rfl);have HE2:=hid (show sum (sum (secT x y))=secS x y from rfl);have HNB:=hid (sum_bytes (secT x y));have HTL:=hid (secT_length x y);have HTB:=hid (secT_bytes x y);have HCE:=hid (λp q r a b c=>cat_secT x y p q r a b c);obtain⟨T,hT⟩:∃ z,secT x y=z:=⟨_,rfl⟩;obtain⟨CI,hCI⟩:∃ z,secI x y=z:=⟨_,rfl⟩;obtain⟨CS,hCS⟩:∃ z,secS x y=z:=⟨_,rfl⟩;rw[hT] at HN HE1 HE2 HNB HTL HTB;simp only[hT] at HCE;rw[hCI] at HC1 HC3 HE1;rw[hCS] at HC2 HC3 HE2;rw[hCI,hCS];clear hT hCI hCS
 go_enter Tryz.func13,Tryz.ntmps13
 go_upto_region 2 with(fail)
 refine world_is (λW=>Blk W w.heap.size 46 (u8s kz48)∧Blk W (w.heap.size+1) 46 (u8s kz48)∧Below w.heap.size w W)
  ⟨(Blk.new w 46 (u8s kz48)).alloc _,Blk.new2 w (.cells (u8s kz48).toArray 46) 46 (u8s kz48),((Below.refl w.heap.size w).alloc (Nat.le_refl _) _).alloc (by simp) _⟩ ?_
 rintro W ⟨r0,c0,bw⟩
 have R0:=hid r0;have C0:=hid c0;have B0:=hid bw;clear r0 c0 bw;have kc:=λ(w:World) (C:Array Value) (n c:Nat)=>Lib.run_convert_bytes_const (P:=Tryz.prog) w 25 5 C n c Tryz.underlying25 Tryz.underlying5
 have SM:=hid (Sr.made [115,101,99,114,101,116] W 5 (6,7));have BA:=hid ((Below.refl W.heap.size W).alloc (Nat.le_refl _) (.cells (u8s [115,101,99,114,101,116]).toArray 5 (6,7)));go_wp2_with fail
 clear kc;refine(refnum_t x 8 _ (by decide) (by decide)).mono ?_
 rintro e w1 ⟨u1,rfl,f1⟩
 obtain⟨A1,c1,rfl,hc1,sr1,b1⟩:=fresh_opK f1;rw[beN_length] at hc1 ⊢;have BB:=BA.out.trans (b1.mono BA.out.size);have R1:=hid (R0.out.below BB R0.out.lt);have C1:=hid (C0.out.below BB C0.out.lt);have B1:=hid (B0.out.trans (BB.mono B0.out.size));have S1:=hid (SM.out.below b1);have T1:=hid sr1;clear f1 hc1 sr1 b1 BB BA SM R0 C0 B0;go_wp2_with fail
 refine(refnum_t y 8 _ (by decide) (by decide)).mono ?_
 rintro e w2 ⟨u2,rfl,f2⟩
 obtain⟨A2,c2,rfl,hc2,sr2,b2⟩:=fresh_opK f2;rw[beN_length] at hc2 ⊢;have R2:=hid (R1.out.below b2 R1.out.lt);have C2:=hid (C1.out.below b2 C1.out.lt);have B2:=hid (B1.out.trans (b2.mono B1.out.size));have S2:=hid (S1.out.below b2);have T2:=hid (T1.out.below b2);have U2:=hid sr2;clear f2 hc2 sr2 b2 S1 T1 R1 C1 B1;have bx:=(Below.refl w2.heap.size w2).alloc (Nat.le_refl _) (.cells (partsK [⟨some ⟨W.heap.size,0,none⟩,6,[115,101,99,114,101,116]⟩,⟨A1,c1,beN x 8⟩,⟨A2,c2,beN y 8⟩]).toArray 25);have B3:=hid (B2.out.trans (bx.mono B2.out.size));have R3:=hid (R2.out.below bx R2.out.lt);have C3:=hid (C2.out.below bx C2.out.lt);have SX:=hid (show ∀ z∈([⟨some ⟨W.heap.size,0,none⟩,6,[115,101,99,114,101,116]⟩,⟨A1,c1,beN x 8⟩,⟨A2,c2,beN y 8⟩]:List PartK),Sr (w2.alloc (.cells (partsK [⟨some ⟨W.heap.size,0,none⟩,6,[115,101,99,114,101,116]⟩,⟨A1,c1,beN x 8⟩,⟨A2,c2,beN y 8⟩]).toArray 25)) z.A z.X by
  intro z hz;simp only[List.mem_cons,List.not_mem_nil,or_false] at hz;rcases hz with rfl |rfl |rfl
  ·exact S2.out.below bx
  ·exact T2.out.below bx
  ·exact U2.out.below bx)
 have BKP:=hid (Blk.new w2 25 (partsK [⟨some ⟨W.heap.size,0,none⟩,6,[115,101,99,114,101,116]⟩,⟨A1,c1,beN x 8⟩,⟨A2,c2,beN y 8⟩]));have HCX:=hid (HCE.out (some ⟨W.heap.size,0,none⟩) A1 A2 6 c1 c2);have HPV:=hid (show partsK [⟨some ⟨W.heap.size,0,none⟩,6,[115,101,99,114,101,116]⟩,⟨A1,c1,beN x 8⟩,⟨A2,c2,beN y 8⟩]=[.slice (some ⟨W.heap.size,0,none⟩) 6 6,.slice A1 8 c1,.slice A2 8 c2] by simp only[partsK,List.map_cons,List.map_nil,beN_length];rfl);rw[HPV.out] at B3 R3 C3 SX BKP;clear bx S2 T2 U2 R2 C2 B2;go_wp2_with fail
 refine(catK_t [⟨some ⟨W.heap.size,0,none⟩,6,[115,101,99,114,101,116]⟩,⟨A1,c1,beN x 8⟩,⟨A2,c2,beN y 8⟩] w2.heap.size 3 3 25 _ rfl (by rw[HPV.out];exact BKP.out) SX.out (by rw[HCX.out,HTL.out];decide) (by decide)).mono ?_
 rintro e w3 ⟨v3,rfl,f3⟩
 rw[HCX.out] at f3;obtain⟨A3,c3,rfl,hc3,sr3,b3⟩:=fresh_opK f3;have B4:=hid (B3.out.trans (b3.mono B3.out.size));have R4:=hid (R3.out.below b3 R3.out.lt);have C4:=hid (C3.out.below b3 C3.out.lt);have ST3:=hid sr3;clear f3 hc3 sr3 b3 SX BKP HPV B3 R3 C3;go_wp2_with fail
 refine(refsum_t T A3 T.length c3 w3 rfl ST3.out HTB.out (by rw[HTL.out];decide)).mono ?_
 rintro e w4 ⟨rfl,b4⟩
 have R5:=hid (R4.out.below b4 R4.out.lt);have C5:=hid (C4.out.below b4 C4.out.lt);have B5:=hid (B4.out.trans (b4.mono B4.out.size));have Z5:=hid (Blk.new w4 23 (u8s z32));have HNB2:=hid (HNB.out HTB.out);have g1l:=C5.out.lt;obtain⟨NM,hNM⟩:∃ z,sum T=z:=⟨_,rfl⟩;rw[hNM] at HN HE1 HE2 HNB2 ⊢;clear b4 ST3 B4 R4 C4 hNM HNB HTB HTL HCX HCE
 go_upto_region 3 with((with_reducible refine store_blk 23 (.tmp 6) (.tmp 17) w4.heap.size 23 (u8s z32) (u8s NM) rfl rfl ?_ ?_ ?_ ?_ ?_ ?_ ?_);exact Z5.out;exact khash_len _ HN.out;exact size32 _ HN.out;exact u8s_one _;exact rfl;exact rfl)
 refine world_is (λW=>Blk W w.heap.size 46 (u8s kz48)∧Blk W (w.heap.size+1) 46 (u8s kz48)∧Blk W w4.heap.size 23 (u8s NM)∧Below w.heap.size w W) ⟨(R5.out.alloc _).setRow_far (by omega) _,(C5.out.alloc _).setRow_far (by omega) _,Z5.out.setRow _,below_setRow (B5.out.alloc B5.out.size _) B5.out.size _⟩ ?_
 rintro W2 ⟨r0,c0,n0,bw⟩
 obtain⟨gn,hgn⟩:∃ g,w4.heap.size=g:=⟨_,rfl⟩;rw[hgn] at n0 g1l ⊢;have R6:=hid r0.drew;have C6:=hid (show Blk W2.drew (w.heap.size+1) 46 ([]++(u8s (List.replicate 16 0)++u8s z32)) from c0.drew);have N6:=hid n0.drew;have B6:=hid bw.drew;clear r0 c0 n0 bw R5 C5 B5 Z5 hgn;refine wp_region_held (S:=λ_=>True) (by kernel_rfl) ?_;change wpAnyH _ _ _ _ _ _ _ _ W2.drew;obtain⟨V,hV⟩:∃ V,W2.drew=V:=⟨_,rfl⟩;rw[hV] at R6 C6 N6 B6 ⊢;clear hV;refine tka9 0 trivial ?_;refine tka9 1 trivial ?_;refine tka9 2 trivial ?_;refine rdw9 3 λK hK=>?_
 have HL1:=hid (show(u8s (List.replicate 16 0)).length=(u8s CI).length by rw[u8s_length,u8s_length,HC1.out];rfl);have HL2:=hid (show(u8s CI).length=16 by rw[u8s_length,HC1.out]);have SRC:=hid (show Sr V (some ⟨gn,0,none⟩) CI by rw[←HE1.out];exact(Sr.of_blk (rest:=[]) N6.out (by simp)).take 16);refine wcopy_part (.tmp 19) (.tmp 20) 25 25 5 (w.heap.size+1) 0 16 16 16 32 16 (some ⟨w.heap.size+1,0,none⟩) (some ⟨gn,0,none⟩) 46 [] (u8s (List.replicate 16 0)) (u8s z32) (u8s CI) rfl Tryz.underlying25 byte_size C6.out rfl HL1.out HL2.out (by go_simp) (by go_simp) (λ_=>⟨rfl,SRC.out.cells (by rw[HC1.out];decide)⟩) (u8s_each _) HL2.out ?_;intro w5 a1 a2 a3;have C7:=hid (show Blk w5 (w.heap.size+1) 46 (u8s CI++(u8s z32++[])) by have:=a1.out;rwa [List.nil_append,←List.append_nil (u8s z32)] at this);have R7:=hid (R6.out.but a2.out R6.out.lt (by omega));have B7:=hid (B6.out.trans (a2.out.below (B':=w.heap.size) (by omega) B6.out.size));have N7:=hid (N6.out.but a2.out N6.out.lt (by omega));clear a1 a2 a3 R6 C6 N6 B6 SRC;refine hK.out _ _ trivial (λ_=>?_);clear hK K;refine wpAnyH_done (by kernel_rfl) ?_ _;go_simp;go_wp2_with fail
 refine(refsum_t NM (some ⟨gn,0,none⟩) 32 32 w5 HN.out (Sr.of_blk (rest:=[]) N7.out (by simp)) HNB2.out (by decide)).mono ?_
 rintro e w6 ⟨rfl,b6⟩
 rw[HE2.out];have R8:=hid (R7.out.below b6 R7.out.lt);have C8:=hid (C7.out.below b6 C7.out.lt);have B8:=hid (B7.out.trans (b6.mono B7.out.size));clear b6 R7 C7 B7 N7
 go_upto_region 5 with((with_reducible refine store_part 23 (.tmp 24) (.tmp 23) (w.heap.size+1) 16 46 (u8s CI) (u8s z32) [] (u8s CS) rfl rfl ?_ ?_ ?_ ?_ ?_ ?_ ?_ ?_);exact C8.out;exact HL2.out.symm;exact khash_len _ HC2.out;exact size32 _ HC2.out;exact u8s_one _;exact rfl;exact rfl;intro w7 a1 a2 a3)
 have C9:=hid (show Blk w7 (w.heap.size+1) 46 (u8s (CI++CS)) by rw[u8s_app];have:=a1.out;rwa [List.append_nil] at this);have R9:=hid (R8.out.but a2.out R8.out.lt (by omega));have B9:=hid (B8.out.trans (a2.out.below (B':=w.heap.size) (by omega) B8.out.size));clear a1 a2 a3 R8 C8 B8
 go_wp2_with (first
  |((with_reducible refine load_blk 46 (.tmp 5) (w.heap.size+1) 46 (u8s (CI++CS)) _ rfl rfl ?_ Tryz.underlying46 ?_ ?_ ?_ ?_);exact C9.out;exact rfl;exact size48 _ HC3.out;exact rfl)
  |((with_reducible refine store_blk 46 (.tmp 4) (.tmp 25) w.heap.size 46 (u8s kz48) (u8s (CI++CS)) rfl rfl ?_ ?_ ?_ ?_ ?_ ?_ ?_);exact R9.out;exact ksec_len _ HC3.out;exact size48 _ HC3.out;exact u8s_one _;exact rfl;exact rfl))
 exact ret_blk (p:=4) (ty:=46) rfl rfl w.heap.size 46 _ _ rfl (R9.out.setRow _) Tryz.underlying46 rfl (size48 _ HC3.out) ⟨rfl,below_setRow B9.out (Nat.le_refl _) _⟩
theorem own_blkp {w:World} {base:Nat} {v:Value} {l:List Nat} {n:Nat} (h:w.ownsRow base 5 1 v n (u8s l)) (hn:0<n):∃ g c rest,v= .slice (some ⟨g,0,none⟩) n c∧n≤c∧base≤g∧Blk w g 5 (u8s l++rest):=by
 rcases h.2 with⟨_,h0⟩ |⟨g,cap,cur,rfl,hb,hh,hc,_,hs,ht⟩
 ·omega
 ·refine⟨g,cap,cur.toList.drop n,rfl,hc,hb,?_⟩;have e:u8s l++cur.toList.drop n=cur.toList:=by rw[←ht,Nat.mul_one,List.take_append_drop]
  unfold Blk;rw[e]
  simpa using hh
end Go.Proofs.YtjlophplcmidlaaGreatDoor
