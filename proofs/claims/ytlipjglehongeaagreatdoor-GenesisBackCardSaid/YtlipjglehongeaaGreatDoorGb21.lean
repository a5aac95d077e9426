/-
  PACKAGE genesis, what is pure
  PACKAGE genesis
  PACKAGE genesis
-/
import Derived.Test.YtlipjglehongeaaGreatDoorGb20
open Go.Lib (hid)
set_option maxRecDepth 100000
namespace Go.Proofs.YtlipjglehongeaaGreatDoor
open Go Go.RowKit Sh
def putE (e:Ge):List Nat:=putG e.f e.rd e.wr e.ks e.st
theorem pg_E (x:Gv):pg x=putE x.ge:=rfl
structure MayE (e:Ge):Prop where
 f0:0≤e.f
 f2:e.f≤2
 r0:0≤e.rd
 r1:e.rd≤15
 w0:0≤e.wr
 w1:e.wr≤15
 n:(e.ks.length:Int)=3 * e.f+1
 k:∀ y∈e.ks,y.length=56
 st:stQ e.rd e.wr e.st=true
theorem begQ_h {e:Ge} (h:begQ e=true):MayE e:=by
 unfold begQ fltB alB mayK at h;simp only[Bool.and_eq_true,decide_eq_true_eq,List.all_eq_true] at h;obtain⟨⟨h1,h2⟩,⟨h3,h4⟩,⟨h5,h6⟩,⟨h7,h8⟩,h9⟩:=h;exact⟨h1,h2,h3,h4,h5,h6,h7,λy hy=>formN_len (h8 y hy),h9⟩
theorem kRd_front (ks:List (List Nat)) (hl:∀ x∈ks,x.length=56) (ex:List Nat) (b:Bool):∀ k,k≤ks.length→kRd (ks.flatten++ex) b k=(ks.take k,(ks.drop k).flatten++ex,b)
 |0,_=>by rw[List.take_zero,List.drop_zero];rfl
 |k+1,hk=>by
  have ih:=kRd_front ks hl ex b k (by omega);have hx:ks[k].length=56:=hl _ (List.getElem_mem (by omega));rw[kRd_succ,ih]
  dsimp only
  have hd:(ks.drop k).flatten++ex=ks[k]++((ks.drop (k+1)).flatten++ex):=by
   rw[List.drop_eq_getElem_cons (by omega),List.flatten_cons,List.append_assoc]
  have hs:kSeg ((ks.drop k).flatten++ex) b=(ks[k],(ks.drop (k+1)).flatten++ex,b):=by
   rw[hd];unfold kSeg;rw[if_pos (by rw[List.length_append];omega),show(ks[k]++((ks.drop (k+1)).flatten++ex)).take 56=ks[k] by rw[List.take_append_of_le_length (by omega),List.take_of_length_le (by omega)],show(ks[k]++((ks.drop (k+1)).flatten++ex)).drop 56=(ks.drop (k+1)).flatten++ex by rw[←hx,List.drop_left]]
  rw[hs,List.take_succ_eq_append_getElem (by omega)]
theorem kRd_back {ys:List Nat} {bad:Bool} :∀ (j:Nat) (l:List (List Nat)) (zs:List Nat),kRd ys bad j=(l,zs,false)→ys=l.flatten++zs∧bad=false
 |0,l,zs,h=>by
  unfold kRd at h;simp only[Prod.mk.injEq] at h;obtain⟨rfl,rfl,rfl⟩:=h;exact⟨rfl,rfl⟩
 |j+1,l,zs,h=>by
  rw[kRd_succ] at h;obtain⟨⟨l0,z0,b0⟩,hr⟩:∃ r,kRd ys bad j=r:=⟨_,rfl⟩;rw[hr] at h
  dsimp only at h
  unfold kSeg at h
  split at h
  ·rename_i h56
   simp only[Prod.mk.injEq] at h;obtain⟨rfl,rfl,rfl⟩:=h;obtain⟨e1,e2⟩:=kRd_back j l0 z0 hr;refine⟨?_,e2⟩;rw[e1,List.flatten_append];simp
  ·simp only[Prod.mk.injEq] at h;obtain⟨_,_,h⟩:=h
   cases h
theorem frontE {e:Ge} (ex:List Nat) (h:begQ e=true) (hs:e.st.length<4294967296):gotE (putE e++ex)=e∧okE (putE e++ex)=decide (endN ex false=0):=by
 have m:=begQ_h h;obtain⟨f,rd,wr,ks,st⟩:=e;have f0:=m.f0;have f2:=m.f2;have r0:=m.r0;have r1:=m.r1;have w0:=m.w0;have w1:=m.w1;have hn:=m.n;have hk:=m.k
 dsimp only at f0 f2 r0 r1 w0 w1 hn hk hs
 obtain⟨a,rfl⟩:=Int.eq_ofNat_of_zero_le f0;obtain⟨b,rfl⟩:=Int.eq_ofNat_of_zero_le r0;obtain⟨c,rfl⟩:=Int.eq_ofNat_of_zero_le w0;have hP:putE ⟨(a:Int),(b:Int),(c:Int),ks,st⟩++ex=beN a 1++(beN b 1++(beN c 1++(ks.flatten++(txtN st++ex)))):=by
  unfold putE putG;simp only[Int.toNat_natCast,List.append_assoc]
 have G1:g1 (putE ⟨(a:Int),(b:Int),(c:Int),ks,st⟩++ex)=(a,beN b 1++(beN c 1++(ks.flatten++(txtN st++ex))),false):=by
  unfold g1;rw[hP,rNum_front a 1 _ false (by omega)]
 have G2:g2 (putE ⟨(a:Int),(b:Int),(c:Int),ks,st⟩++ex)=(b,beN c 1++(ks.flatten++(txtN st++ex)),false):=by
  unfold g2;rw[G1,rNum_front b 1 _ false (by omega)]
 have G3:g3 (putE ⟨(a:Int),(b:Int),(c:Int),ks,st⟩++ex)=(c,ks.flatten++(txtN st++ex),false):=by
  unfold g3;rw[G2,rNum_front c 1 _ false (by omega)]
 have G4:g4 (putE ⟨(a:Int),(b:Int),(c:Int),ks,st⟩++ex)=(ks,txtN st++ex,false):=by
  unfold g4;rw[G3,G1]
  dsimp only
  rw[show 3 * a+1=ks.length by omega,kRd_front ks hk (txtN st++ex) false ks.length (Nat.le_refl _),List.take_length,List.drop_length];rfl
 have G5:g5 (putE ⟨(a:Int),(b:Int),(c:Int),ks,st⟩++ex)=(st,ex,false):=by
  unfold g5;rw[G4];exact rTxt_frontG st ex false _ (by dsimp only;rw[List.length_append];unfold txtN;rw[List.length_append,beN_length];omega) hs
 have hg:gotE (putE ⟨(a:Int),(b:Int),(c:Int),ks,st⟩++ex)=⟨(a:Int),(b:Int),(c:Int),ks,st⟩:=by
  unfold gotE;rw[G1,G2,G3,G4,G5]
 refine⟨hg,?_⟩;unfold okE;rw[hg,G1,G5,h,Bool.and_true];have hf:fltB ((a:Nat):Int)=true:=by unfold fltB;rw[decide_eq_true (show 0≤(a:Int) by omega),decide_eq_true (show(a:Int)≤2 by omega)];rfl
 rw[hf,Bool.true_and]
theorem frontE_ok {e:Ge} (h:begQ e=true) (hs:e.st.length<4294967296):gotE (putE e)=e∧okE (putE e)=true:=by
 have:=frontE [] h hs;rw[List.append_nil] at this;exact⟨this.1,this.2.trans rfl⟩
theorem frontE_no {e:Ge} (ex:List Nat) (h:begQ e=true) (hs:e.st.length<4294967296) (he:0<ex.length):okE (putE e++ex)=false:=by
 rw[(frontE ex h hs).2];unfold endN;rw[if_pos (.inr he)];rfl
theorem backE {xs:List Nat} (hb:Bytes xs) (h:okE xs=true):xs=putE (gotE xs)∧begQ (gotE xs)=true:=by
 unfold okE at h;simp only[Bool.and_eq_true,decide_eq_true_eq] at h;obtain⟨_,he,hq⟩:=h;refine⟨?_,hq⟩;obtain⟨⟨v1,y1,d1⟩,F1⟩:∃ r,g1 xs=r:=⟨_,rfl⟩;obtain⟨⟨v2,y2,d2⟩,F2⟩:∃ r,g2 xs=r:=⟨_,rfl⟩;obtain⟨⟨v3,y3,d3⟩,F3⟩:∃ r,g3 xs=r:=⟨_,rfl⟩;obtain⟨⟨ks,y4,d4⟩,F4⟩:∃ r,g4 xs=r:=⟨_,rfl⟩;obtain⟨⟨st,y5,d5⟩,F5⟩:∃ r,g5 xs=r:=⟨_,rfl⟩;have hg:gotE xs=⟨(v1:Int),(v2:Int),(v3:Int),ks,st⟩:=by unfold gotE;rw[F1,F2,F3,F4,F5]
 rw[F5] at he
 dsimp only at he
 have hd5:d5=false∧y5=[]:=by
  unfold endN at he
  split at he
  ·cases he
  ·rename_i hh
   refine⟨by cases d5 with |false=>rfl |true=>exact absurd (.inl rfl) hh,?_⟩
   cases y5 with
   |nil=>rfl
   |cons a l=>exact absurd (.inr (by simp)) hh
 obtain⟨rfl,rfl⟩:=hd5;have b1:Bytes y1:=by have:=(rNum_bytes xs false 1 hb).1;rw[show rNum xs false 1=(v1,y1,d1) from F1] at this;exact this
 have R2:rNum y1 d1 1=(v2,y2,d2):=by have:=F2;unfold g2 at this;rw[F1] at this;exact this
 have b2:Bytes y2:=by have:=(rNum_bytes y1 d1 1 b1).1;rw[R2] at this;exact this
 have R3:rNum y2 d2 1=(v3,y3,d3):=by have:=F3;unfold g3 at this;rw[F2] at this;exact this
 have b3:Bytes y3:=by have:=(rNum_bytes y2 d2 1 b2).1;rw[R3] at this;exact this
 have R4:kRd y3 d3 (3 * v1+1)=(ks,y4,d4):=by have:=F4;unfold g4 at this;rw[F3,F1] at this;exact this
 have b4:Bytes y4:=by have:=(kRd_bytes d3 b3 (3 * v1+1)).2.1;rw[R4] at this;exact this
 have R5:rTxt y4 d4 y4.length=(st,[],false):=by have:=F5;unfold g5 at this;rw[F4] at this;exact this
 obtain⟨t1,t2,_,_⟩:=rTxt_backG b4 R5;subst t2;obtain⟨k1,k2⟩:=kRd_back _ _ _ R4;subst k2;obtain⟨m1,m2,_,_⟩:=rNum_back b2 R3;subst m2;obtain⟨n1,n2,_,_⟩:=rNum_back b1 R2;subst n2;obtain⟨p1,_,_,_⟩:=rNum_back hb (show rNum xs false 1=(v1,y1,false) from F1);rw[hg,p1,n1,m1,k1,t1];unfold putE putG;simp only[Int.toNat_natCast,List.append_nil]
theorem take_noE {e:Ge} {j:Nat} (h:begQ e=true) (hs:e.st.length<4294967296) (hb:Bytes (putE e)) (hl:(putE e).length<4294967296) (hj:j< (putE e).length):okE ((putE e).take j)=false:=by
 cases hq:okE ((putE e).take j) with
 |false=>rfl
 |true=>
  obtain⟨e1,e2⟩:=backE (bytes_take hb j) hq;have h1:=(frontE_ok h hs).2;have h2:putE e=putE (gotE ((putE e).take j))++(putE e).drop j:=by rw[←e1,List.take_append_drop]
  have h6:∀ d:Ge,d.st.length≤(putE d).length:=λd=>by unfold putE putG txtN;simp only[List.length_append];omega
  have h4:(gotE ((putE e).take j)).st.length<4294967296:=by
   have h5:(putE (gotE ((putE e).take j))).length≤(putE e).length:=by rw[←e1,List.length_take];omega
   have h7:=h6 (gotE ((putE e).take j));omega
  have h3:=frontE_no ((putE e).drop j) e2 h4 (by rw[List.length_drop];omega);rw[←h2,h1] at h3
  cases h3
theorem bEqual_t (xs ys:List Nat) (A B:Option Addr) (n m c d:Nat) (w:World) (hn:xs.length=n) (hm:ys.length=m) (ha:Sr w A xs) (hb:Sr w B ys) (hx:Bytes xs) (hy:Bytes ys):
  Calls Tryz.prog 64 #[.slice A n c,.slice B m d] w λe w'=>e= .returned (.bool (decide (xs=ys)))∧w=w':=by
 have e1:=ha.conv hn c;have e2:=hb.conv hm d;have e3:=str_beqT xs ys hx hy;obtain⟨b,hbb⟩:∃ b,decide (xs=ys)=b:=⟨_,rfl⟩;rw[hbb] at e3 ⊢;obtain⟨s,hs⟩:∃ s,str xs=s:=⟨_,rfl⟩;obtain⟨t,ht⟩:∃ t,str ys=t:=⟨_,rfl⟩;rw[hs] at e1 e3;rw[ht] at e2 e3;clear ha hb hx hy hbb hs ht hn hm
 go_enter Tryz.func64,Tryz.ntmps64
 go_wp2
 go_ret;exact⟨rfl,rfl⟩
def sameE (e d:Ge):Bool:=(e.f == d.f) && ((e.rd == d.rd) && ((e.wr == d.wr) && (decide (e.ks=d.ks) && decide (e.st=d.st))))
theorem sameE_iff {e d:Ge} :sameE e d=true↔e=d:=by
 obtain⟨a1,a2,a3,a4,a5⟩:=e;obtain⟨b1,b2,b3,b4,b5⟩:=d;simp only[sameE,Bool.and_eq_true,beq_iff_eq,decide_eq_true_eq,Ge.mk.injEq]
set_option maxHeartbeats 1000000 in
theorem eqFunc_t (p q:Option Addr) (c d:Nat) (k l:List Ky) (w:World) (hk:RowL w p 1 kyv k) (hl:RowL w q 1 kyv l) (k1:∀ y∈k,Sr w y.A y.X∧Bytes y.X) (l1:∀ y∈l,Sr w y.A y.X∧Bytes y.X) (hkn:k.length≤9223372036854775807) (hln:l.length≤9223372036854775807):
  Calls Tryz.prog 63 #[.slice p k.length c,.slice q l.length d,.func (.func 64) #[] #[]] w λe w'=>e= .returned (.bool (decide (k.map (·.X)=l.map (·.X))))∧w=w':=by
 obtain⟨n,hn⟩:∃ n,k.length=n:=⟨_,rfl⟩;obtain⟨m,hm⟩:∃ n,l.length=n:=⟨_,rfl⟩;have HN:=hid hn;have HM:=hid hm;rw[hn] at hkn ⊢;rw[hm] at hln ⊢;obtain⟨r,hr⟩:∃ r,decide (k.map (·.X)=l.map (·.X))=r:=⟨_,rfl⟩;have HR:=hid hr;rw[hr];have hcf:=enters_of Tryz.func64 (by kernel_rfl) rfl;have HK:=hid hk;have HL:=hid hl;have K1:=hid k1;have L1:=hid l1;clear hk hl k1 l1 hn hm hr
 by_cases hnm:n=m
 ·subst hnm;have e1:((n:Int) != (n:Int))=false:=by rw[bne_eq_false_iff_eq]
  go_enter Tryz.func63,Tryz.ntmps63
  go_wp2_with fail
  clear e1
  go_loopw [17] (λt wr=>∃ j:Nat,j≤n∧t= .int .i64 (j:Int)∧wr=w∧∀ (i:Nat) (y z:Ky),i<j→k[i]? =some y→l[i]? =some z→y.X=z.X) (λt _=>n- (intOf t).toNat)
  case atStart=>exact⟨0,by omega,rfl,rfl,λi y z hi=>absurd hi (by omega)⟩
  case round=>
   obtain⟨j,hj,rfl,rfl,hb⟩:=hrel;have HB:=hid hb;clear hb
   by_cases hlt:j<n
   ·obtain⟨y,hy⟩:∃ y,k[j]? =some y:=⟨_,List.getElem?_eq_getElem (by rw[HN.out];exact hlt)⟩;obtain⟨z,hz⟩:∃ y,l[j]? =some y:=⟨_,List.getElem?_eq_getElem (by rw[HM.out];exact hlt)⟩;obtain⟨b1,o1,hp1,_,r1⟩:=HK.out j y hy;obtain⟨b2,o2,hp2,_,r2⟩:=HL.out j z hz;subst hp1 hp2;have c1:wr.cell? ⟨b1,o1+j,none⟩=some (.slice y.A y.X.length y.c):=by have:=r1 0 _ rfl;rw[Nat.mul_one,Nat.add_zero] at this;exact this
    have c2:wr.cell? ⟨b2,o2+j,none⟩=some (.slice z.A z.X.length z.c):=by have:=r2 0 _ rfl;rw[Nat.mul_one,Nat.add_zero] at this;exact this
    have j1:(j:Int)< (n:Int):=by omega
    have M1:=List.mem_of_getElem? hy;have M2:=List.mem_of_getElem? hz;have BT:=hid (bEqual_t y.X z.X y.A z.A y.X.length z.X.length y.c z.c wr rfl rfl (K1.out y M1).1 (L1.out z M2).1 (K1.out y M1).2 (L1.out z M2).2);have HY:=hid hy;have HZ:=hid hz;obtain⟨eb,heb⟩:∃ b,decide (y.X=z.X)=b:=⟨_,rfl⟩;rw[heb] at BT;have HEB:=hid heb;clear heb hy hz M1 M2 r1 r2;go_wp2_with fail
    refine BT.out.mono ?_
    rintro e w3 ⟨rfl,rfl⟩
    clear BT c1 c2
    cases eb with
    |false=>
     have hR:r=false:=by
      rw[←HR.out];refine decide_eq_false λq=>?_
      have h1:(k.map (·.X))[j]? =some y.X:=by rw[List.getElem?_map,HY.out];rfl
      have h2:(l.map (·.X))[j]? =some z.X:=by rw[List.getElem?_map,HZ.out];rfl
      rw[q,h2] at h1
      injection h1 with h1
      exact of_decide_eq_false HEB.out h1.symm
     subst hR;go_wp2_with fail
     go_ret;exact⟨rfl,rfl⟩
    |true=>
     have HB2:=hid (show ∀ (i:Nat) (y z:Ky),i<j+1→k[i]? =some y→l[i]? =some z→y.X=z.X from λi y' z' hi h1 h2=>by
      rcases Nat.lt_or_ge i j with h |h
      ·exact HB.out i y' z' h h1 h2
      ·obtain rfl:i=j:=by omega
       rw[HY.out] at h1;rw[HZ.out] at h2;obtain rfl:=Option.some.inj h1;obtain rfl:=Option.some.inj h2;exact of_decide_eq_true HEB.out)
     go_wp2_with fail
     go_roundw
     case rel=>exact⟨j+1,hlt,by go_num,(by first |rfl |trivial),HB2.out⟩
     case measure=>simp[intOf];omega
   ·obtain rfl:j=n:=by omega
    have hR:r=true:=by
     rw[←HR.out];refine decide_eq_true (List.ext_getElem? λi=>?_);rw[List.getElem?_map,List.getElem?_map];rcases Nat.lt_or_ge i j with h |h
     ·obtain⟨y,h1⟩:∃ y,k[i]? =some y:=⟨_,List.getElem?_eq_getElem (by rw[HN.out];exact h)⟩;obtain⟨z,h2⟩:∃ y,l[i]? =some y:=⟨_,List.getElem?_eq_getElem (by rw[HM.out];exact h)⟩;rw[h1,h2,Option.map_some,Option.map_some,HB.out i _ _ h h1 h2]
     ·rw[List.getElem?_eq_none (by rw[HN.out];exact h),List.getElem?_eq_none (by rw[HM.out];exact h)]
    subst hR;clear hlt;go_wp2_with fail
    go_ret;exact⟨rfl,rfl⟩
 ·have e1:((n:Int) != (m:Int))=true:=by rw[bne_iff_ne];omega
  have hR:r=false:=by
   rw[←HR.out];refine decide_eq_false λq=>hnm ?_
   have:=congrArg List.length q;rw[List.length_map,List.length_map,HN.out,HM.out] at this;exact this
  subst hR
  go_enter Tryz.func63,Tryz.ntmps63
  go_wp2_with fail
  go_ret;exact⟨rfl,rfl⟩
structure GS9 (w0 W:World) (x y:Gv):Prop where
 a:Blk W w0.heap.size 25 (gv x)
 b:Blk W (w0.heap.size+1) 25 (gv y)
 rx:GvW W x
 ry:GvW W y
 bel:Below w0.heap.size w0 W
set_option maxHeartbeats 1000000 in
theorem gSame_t (x y:Gv) (w:World) (hx:GvW w x) (hy:GvW w y):
  Calls Tryz.prog 18 #[.agg (gv x).toArray,.agg (gv y).toArray] w λe w'=>e= .returned (.bool (sameE x.ge y.ge))∧Below w.heap.size w w':=by
 obtain⟨V,hV⟩:∃ V,(w.alloc (.cells (gv x).toArray 25)).alloc (.cells (gv y).toArray 25)=V:=⟨_,rfl⟩;have S1:=hid (show GS9 w V x y from by
  have b0:Below w.heap.size w V:=by rw[←hV];exact((Below.refl _ _).alloc (Nat.le_refl _) _).alloc (by simp) _
  exact⟨by rw[←hV];exact(Blk.new w 25 (gv x)).alloc _,by rw[←hV];exact Blk.new2 w _ 25 (gv y),hx.below b0,hy.below b0,b0⟩)
 obtain⟨r,hr⟩:∃ r,sameE x.ge y.ge=r:=⟨_,rfl⟩;rw[hr];obtain⟨b1,hb1⟩:∃ b,(x.f == y.f)=b:=⟨_,rfl⟩;obtain⟨b2,hb2⟩:∃ b,(x.rd == y.rd)=b:=⟨_,rfl⟩;obtain⟨b3,hb3⟩:∃ b,(x.wr == y.wr)=b:=⟨_,rfl⟩;have EQ:=hid (eqFunc_t x.kp y.kp x.kc y.kc x.ks y.ks V S1.out.rx.ks S1.out.ry.ks (λz hz=>⟨S1.out.rx.k z hz,S1.out.rx.kb z hz⟩) (λz hz=>⟨S1.out.ry.k z hz,S1.out.ry.kb z hz⟩) S1.out.rx.kl S1.out.ry.kl);have BE:=hid (bEqual_t x.st y.st x.sp y.sp x.st.length y.st.length x.sc y.sc V rfl rfl S1.out.rx.st S1.out.ry.st S1.out.rx.sb S1.out.ry.sb);obtain⟨b4,hb4⟩:∃ b,decide (x.ks.map (·.X)=y.ks.map (·.X))=b:=⟨_,rfl⟩;obtain⟨b5,hb5⟩:∃ b,decide (x.st=y.st)=b:=⟨_,rfl⟩;rw[hb4] at EQ;rw[hb5] at BE;have HR:=hid (show r=(b1 && (b2 && (b3 && (b4 && b5)))) from by rw[←hr,←hb1,←hb2,←hb3,←hb4,←hb5];rfl);have hcf:=enters_of Tryz.func64 (by kernel_rfl) rfl;clear hx hy hr hb4 hb5
 go_enter Tryz.func18,Tryz.ntmps18
 go_upto_region 1 with(fail)
 clear hV;obtain⟨c0,c1,c2,c3,c4⟩:=gv_cells S1.out.a;obtain⟨d0,d1,d2,d3,d4⟩:=gv_cells S1.out.b
 cases b1 with
 |false=>
  obtain rfl:r=false:=HR.out;go_wp2_with fail
  go_ret;exact⟨rfl,S1.out.bel⟩
 |true=>
 cases b2 with
 |false=>
  obtain rfl:r=false:=HR.out;go_wp2_with fail
  go_ret;exact⟨rfl,S1.out.bel⟩
 |true=>
 cases b3 with
 |false=>
  obtain rfl:r=false:=HR.out;go_wp2_with fail
  go_ret;exact⟨rfl,S1.out.bel⟩
 |true=>
 go_wp2_with fail
 refine EQ.out.mono ?_
 rintro e w2 ⟨rfl,rfl⟩
 cases b4 with
 |false=>
  obtain rfl:r=false:=HR.out;go_wp2_with fail
  go_ret;exact⟨rfl,S1.out.bel⟩
 |true=>
 go_wp2_with fail
 refine BE.out.mono ?_
 rintro e w2 ⟨rfl,rfl⟩
 obtain rfl:r=b5:=HR.out;go_wp2_with fail
 go_ret;exact⟨rfl,S1.out.bel⟩
theorem built_hz:Tryz.prog.built 36 []=some (u8s zH).toArray:=by kernel_rfl
structure HG9 (w0 W:World) (x:Gv) (h:List Nat):Prop where
 gb:GB9 w0 W x
 res:Blk W (w0.heap.size+1) 36 (u8s h)
theorem HG9.below {w0 W W':World} {x:Gv} {l:List Nat} (h:HG9 w0 W x l) (hb:Below W.heap.size W W'):HG9 w0 W' x l:=⟨h.gb.below hb,h.res.below hb h.res.lt⟩
theorem HG9.new {w:World} {x:Gv} (h:GvW w x):HG9 w ((w.alloc (.cells (gv x).toArray 25)).alloc (.cells (u8s zH).toArray 36)) x zH:=
 ⟨(GB9.new h).below ((Below.refl _ _).alloc (Nat.le_refl _) _),Blk.new2 w (.cells (gv x).toArray 25) 36 (u8s zH)⟩
theorem gAnchor_no (x:Gv) (w:World) (h:GvW w x) (hk:KI w) (hm:begB x=false):
  Calls Tryz.prog 20 #[.agg (gv x).toArray] w λe w'=>e= .returned (.agg (u8s zH).toArray)∧Below w.heap.size w w':=by
 have S0:=hid (HG9.new h);have HK:=hid hk;have FG:=hid (gv_size x);have HM:=hid hm;clear h hk hm
 go_enter Tryz.func20,Tryz.ntmps20
 go_upto_region 1 with(fail)
 refine world_at (λY=>HG9 w Y x zH) S0.out ?_
 rintro V s1
 have S1:=hid s1;clear s1 S0;have MT:=hid (gMay_t x V S1.out.gb.rx (HK.out.kept S1.out.gb.bel));rw[HM.out] at MT;have GA:=hid S1.out.gb.a
 go_wp2_with ((with_reducible refine load_blk 25 (.tmp 1) w.heap.size 25 (gv x) _ rfl rfl ?_ Tryz.underlying25 ?_ ?_ ?_ ?_);exact GA.out;exact rfl;exact FG.out;exact rfl)
 refine MT.out.mono ?_
 rintro e w1 ⟨rfl,b1⟩
 have S2:=hid (S1.out.below b1);clear S1 MT b1 GA;have RES:=hid S2.out.res;have RZ:=hid (S2.out.res.setRow (u8s zH));have BF:=hid (below_setRow S2.out.gb.bel (g:=w.heap.size+1) (by omega) (u8s zH).toArray);have BZ:=built_hz;have FZ:=hid (hash_size zH rfl)
 go_wp2_with ((with_reducible refine at_op (.store 36 (.tmp 2) (.tmp 6)) rfl ?_);go_must (refine store_blk 36 (.tmp 2) (.tmp 6) (w.heap.size+1) 36 (u8s zH) (u8s zH) rfl rfl RES.out rfl FZ.out (u8s_oneD _) rfl rfl ?_))
 exact ret_blk (p:=2) (ty:=36) rfl rfl (w.heap.size+1) 36 _ _ rfl RZ.out Tryz.underlying36 rfl FZ.out ⟨rfl,BF.out⟩
set_option maxHeartbeats 1000000 in
theorem gLink_no (x:Gv) (w:World) (h:GvW w x) (hk:KI w) (hm:begB x=false):
  Calls Tryz.prog 22 #[.agg (gv x).toArray] w λe w'=>e= .returned (.agg (u8s zH).toArray)∧Below w.heap.size w w':=by
 have S0:=hid (HG9.new h);have HK:=hid hk;have FG:=hid (gv_size x);have HM:=hid hm;clear h hk hm
 go_enter Tryz.func22,Tryz.ntmps22
 go_upto_region 1 with(fail)
 refine world_at (λY=>HG9 w Y x zH) S0.out ?_
 rintro V s1
 have S1:=hid s1;clear s1 S0;have BT:=hid (begun_t x V S1.out.gb.rx (HK.out.kept S1.out.gb.bel));rw[HM.out] at BT;have GA:=hid S1.out.gb.a
 go_wp2_with ((with_reducible refine load_blk 25 (.tmp 1) w.heap.size 25 (gv x) _ rfl rfl ?_ Tryz.underlying25 ?_ ?_ ?_ ?_);exact GA.out;exact rfl;exact FG.out;exact rfl)
 refine BT.out.mono ?_
 rintro e w1 ⟨y,rfl, -,yy,b1⟩
 have S2:=hid (S1.out.below b1);have wy:=yy.w;clear S1 BT b1 GA yy;have FX_y:=hid (sv_size y wy.l4);have FO_y:=hid (sv_one y);have SL_y:=hid (sv_len y wy.l4);have Z_y:=hid (Blk.new w1 46 [.int .i64 0,.slice none 0 0,.slice none 0 0,.int .i64 0,.int .i64 0,.int .i64 0,.int .i64 0,.int .i64 0,.slice none 0 0,.bool false,.int .i64 0,.int .i64 0,.int .i64 0,.slice none 0 0,.bool false,.int .i64 0,.int .i64 0,.int .i64 0,.slice none 0 0,.bool false,.int .i64 0,.int .i64 0,.int .i64 0,.slice none 0 0,.bool false]);have KN_y:=hid (KSp.new (w1:=w1) (x:=y) wy)
 go_upto_region 2 with((with_reducible refine at_op (.store 46 (.tmp 3) (.tmp 11)) rfl ?_);go_must (refine store_blk 46 (.tmp 3) (.tmp 11) (w1).heap.size 46 _ (sv y) rfl rfl Z_y.out SL_y.out.symm FX_y.out FO_y.out rfl rfl ?_))
 obtain⟨V1,hV1⟩:∃ V,((w1).alloc (.cells #[.int .i64 0,.slice none 0 0,.slice none 0 0,.int .i64 0,.int .i64 0,.int .i64 0,.int .i64 0,.int .i64 0,.slice none 0 0,.bool false,.int .i64 0,.int .i64 0,.int .i64 0,.slice none 0 0,.bool false,.int .i64 0,.int .i64 0,.int .i64 0,.slice none 0 0,.bool false,.int .i64 0,.int .i64 0,.int .i64 0,.slice none 0 0,.bool false] 46)).setRow (w1).heap.size (sv y).toArray=V:=⟨_,rfl⟩;rw[hV1] at KN_y ⊢;have K_y:=hid KN_y.out.1;have B_y:=hid KN_y.out.2;clear hV1 KN_y Z_y FO_y SL_y;have S3:=hid (S2.out.below B_y.out);clear S2 B_y K_y FX_y wy;have RES:=hid S3.out.res;have RZ:=hid (S3.out.res.setRow (u8s zH));have BF:=hid (below_setRow S3.out.gb.bel (g:=w.heap.size+1) (by omega) (u8s zH).toArray);have BZ:=built_hz;have FZ:=hid (hash_size zH rfl)
 go_wp2_with ((with_reducible refine at_op (.store 36 (.tmp 2) (.tmp 15)) rfl ?_);go_must (refine store_blk 36 (.tmp 2) (.tmp 15) (w.heap.size+1) 36 (u8s zH) (u8s zH) rfl rfl RES.out rfl FZ.out (u8s_oneD _) rfl rfl ?_))
 exact ret_blk (p:=2) (ty:=36) rfl rfl (w.heap.size+1) 36 _ _ rfl RZ.out Tryz.underlying36 rfl FZ.out ⟨rfl,BF.out⟩
end Go.Proofs.YtlipjglehongeaaGreatDoor
