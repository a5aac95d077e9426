/-
  THE REFERENCE OF CHAPTER 9
-/
import Derived.Test.YtjlophplcmidlaaGreatDoorAd24
import Derived.Test.YtjlophplcmidlaaGreatDoorAd17
import Derived.Test.YtjlophplcmidlaaGreatDoorAd25
namespace Go.Proofs.YtjlophplcmidlaaGreatDoor
open Go Go.RowKit Sh
theorem YS.keptT {B g:Nat} {W W':World} {x:Spv} {t:TypeId} {cs:List Value} (h:YS B W x) (hk:Kept (λk=>k=g) W W') (hg:Blk W g t cs) (h1:190≠t) (h2:133≠t) (h3:136≠t):YS B W' x:=by
 have nf:∀ {p:Option Addr},NF W B p→∀ a:Addr,p=some a→¬ a.block=g:=λn a ha e=>n.apart hg h1 a ha e
 exact⟨own_kept h.its hk (λk hk' e=>own_apart h.its hg h2 (by rw[hk',e])),λy hy=>⟨(h.it y hy).1.keptS hk (nf (h.it y hy).2),(h.it y hy).2.kept hk (nf (h.it y hy).2)⟩,own_kept h.wts hk (λk hk' e=>own_apart h.wts hg h3 (by rw[hk',e])),λy hy=>⟨(h.wt y hy).1.keptS hk (nf (h.wt y hy).2),(h.wt y hy).2.kept hk (nf (h.wt y hy).2)⟩,h.l4,λy hy=>⟨(h.la y hy).1.keptS hk (nf (h.la y hy).2),(h.la y hy).2.kept hk (nf (h.la y hy).2)⟩,h.n,h.m⟩
structure GP9 (w0 W:World) (g gx:Nat) (zs:List Nat) (bad:Bool) (x:Spv):Prop where
 rd:Rr w0 W g zs bad
 res:Blk W w0.heap.size 80 (sv (gsp 0 0 0))
 bx:Blk W gx 80 (sv x)
 nr:w0.heap.size<gx
 ng:w0.heap.size<g
 ys:YS w0.heap.size W x
section
variable {w0 W W' : World} {g gx g3 : Nat} {zs zs' : List Nat} {bad bad' : Bool} {x x' : Spv}
theorem Rr.blk (h:Rr w0 W g zs bad):∃ cs,Blk W g 130 cs:=by
 obtain⟨A,c,h1,_,_⟩:=h.is;exact⟨_,h1⟩
theorem GP9.read (h:GP9 w0 W g gx zs bad x) (hk:Kept (λk=>k=g) W W') (hr:Rr w0 W' g zs' bad'):GP9 w0 W' g gx zs' bad' x:=by
 obtain⟨cs,hg⟩:=h.rd.blk;have hn:=h.ng;exact⟨hr,h.res.kept hk (by omega),h.bx.kept hk (h.bx.apart hg (by decide)),h.nr,h.ng,h.ys.keptT hk hg (by decide) (by decide) (by decide)⟩
theorem GP9.below (h:GP9 w0 W g gx zs bad x) (hb:Below W.heap.size W W'):GP9 w0 W' g gx zs bad x:=
 ⟨h.rd.below hb,h.res.below hb h.res.lt,h.bx.below hb h.bx.lt,h.nr,h.ng,h.ys.below hb⟩
theorem GP9.put (h:GP9 w0 W g gx zs bad x) (hk:Kept (λk=>k=gx) W W') (hb:Blk W' gx 80 (sv x')) (y:YS w0.heap.size W x'):GP9 w0 W' g gx zs bad x':=by
 obtain⟨cs,hg⟩:=h.rd.blk;have hn:=h.nr;exact⟨h.rd.off hk (λe=>h.bx.apart hg (by decide) e.symm) (by omega),h.res.kept hk (by omega),hb,h.nr,h.ng,y.kept hk h.bx⟩
end
theorem Rr.offF {w0 W W':World} {g:Nat} {zs:List Nat} {bad:Bool} {F:Nat→Prop} (h:Rr w0 W g zs bad) (hk:Kept F W W') (hg:¬ F g) (hl:∀ k,F k→w0.heap.size≤k):Rr w0 W' g zs bad:=by
 obtain⟨A,c,h1,h2,h3⟩:=h.is;exact⟨⟨A,c,h1.kept hk hg,h2,h3⟩,h.none_,h.bel.trans ((hk.mono hl).to_below h.bel.size),h.low⟩
structure GE9 (w0 W:World) (t:TypeId) (g gx g3:Nat) (zs:List Nat) (bad:Bool) (x:Spv) (cs:List Value) (yp:Option Addr) (yt:List Fld):Prop where
 gp:GP9 w0 W g gx zs bad x
 el:Blk W g3 t cs
 lo:w0.heap.size<g3
 io:∀ k,(Value.slice x.ip x.its.length x.ic).ownBlock=some k→k≠g3
 wo:∀ k,(Value.slice x.wp x.wts.length x.wc).ownBlock=some k→k≠g3
 ng:g≠g3
 nx:gx≠g3
 tr:TR W yp yt
 nf:NF W w0.heap.size yp
section
variable {w0 W W' : World} {t : TypeId} {g gx g3 : Nat} {zs zs' : List Nat} {bad bad' : Bool} {x x' : Spv} {cs cs' : List Value} {yp : Option Addr} {yt : List Fld}
theorem GE9.new (h:GP9 w0 W g gx zs bad x) (t:TypeId) (cs:List Value):GE9 w0 (W.alloc (.cells cs.toArray t)) t g gx W.heap.size zs bad x cs none []:=by
 have bz:Below W.heap.size W (W.alloc (.cells cs.toArray t)):=(Below.refl _ _).alloc (Nat.le_refl _) _;have h1:=h.rd.lt;have h2:=h.bx.lt;have h3:=h.nr;exact⟨h.below bz,Blk.new W t cs,by omega,λk e=>by have:=(h.ys.its.lt k e).2;omega,λk e=>by have:=(h.ys.wts.lt k e).2;omega,by omega,by omega,⟨λj hj=>absurd hj (Nat.not_lt_zero j),Nat.zero_le _⟩,NF.no _ _⟩
theorem GE9.read (h:GE9 w0 W t g gx g3 zs bad x cs yp yt) (hk:Kept (λk=>k=g) W W') (hr:Rr w0 W' g zs' bad'):GE9 w0 W' t g gx g3 zs' bad' x cs yp yt:=by
 obtain⟨ds,hg⟩:=h.gp.rd.blk;have nf:∀ a:Addr,yp=some a→¬ a.block=g:=λa ha e=>h.nf.apart hg (by decide) a ha e
 exact⟨h.gp.read hk hr,h.el.kept hk (λe=>h.ng e.symm),h.lo,h.io,h.wo,h.ng,h.nx,h.tr.keptS hk nf,h.nf.kept hk nf⟩
theorem GE9.below (h:GE9 w0 W t g gx g3 zs bad x cs yp yt) (hb:Below W.heap.size W W'):GE9 w0 W' t g gx g3 zs bad x cs yp yt:=
 ⟨h.gp.below hb,h.el.below hb h.el.lt,h.lo,h.io,h.wo,h.ng,h.nx,h.tr.below hb,h.nf.below hb⟩
theorem GE9.store (h:GE9 w0 W t g gx g3 zs bad x cs yp yt) (hk:Kept (λk=>k=g3) W W') (hb:Blk W' g3 t cs') (hf:190≠t):GE9 w0 W' t g gx g3 zs bad x cs' yp yt:=by
 have hl:=h.lo;have nfg:∀ {p:Option Addr},NF W w0.heap.size p→∀ a:Addr,p=some a→¬ a.block=g3:=λn a ha e=>n.apart h.el hf a ha e
 have y:=h.gp.ys;refine⟨⟨h.gp.rd.off hk h.ng (by omega),h.gp.res.kept hk (by omega),h.gp.bx.kept hk h.nx,h.gp.nr,h.gp.ng,?_⟩,hb,h.lo,h.io,h.wo,h.ng,h.nx,h.tr.keptS hk (nfg h.nf),h.nf.kept hk (nfg h.nf)⟩;exact⟨own_kept y.its hk (λk e q=>h.io k e q),λz hz=>⟨(y.it z hz).1.keptS hk (nfg (y.it z hz).2),(y.it z hz).2.kept hk (nfg (y.it z hz).2)⟩,own_kept y.wts hk (λk e q=>h.wo k e q),λz hz=>⟨(y.wt z hz).1.keptS hk (nfg (y.wt z hz).2),(y.wt z hz).2.kept hk (nfg (y.wt z hz).2)⟩,y.l4,λz hz=>⟨(y.la z hz).1.keptS hk (nfg (y.la z hz).2),(y.la z hz).2.kept hk (nfg (y.la z hz).2)⟩,y.n,y.m⟩
theorem GE9.row (h:GE9 w0 W t g gx g3 zs bad x cs yp yt) {yp':Option Addr} {yt':List Fld} (ht:TR W yp' yt') (hn:NF W w0.heap.size yp'):GE9 w0 W t g gx g3 zs bad x cs yp' yt':=
 ⟨h.gp,h.el,h.lo,h.io,h.wo,h.ng,h.nx,ht,hn⟩
theorem GE9.grow (h:GE9 w0 W t g gx g3 zs bad x cs yp yt) {o:Option Nat} (hr:W.grownBy W' o) (hge:∀ k,o=some k→w0.heap.size<k) (h1:o≠some g) (h2:o≠some gx) (hnf:∀ p,NF W w0.heap.size p→∀ a:Addr,p=some a→o≠some a.block):
  Rr w0 W' g zs bad∧Blk W' w0.heap.size 80 (sv (gsp 0 0 0))∧Blk W' gx 80 (sv x)∧(∀ p l,TR W p l→NF W w0.heap.size p→TR W' p l∧NF W' w0.heap.size p):=by
 have k:Kept (λk=>o=some k) W W':=(Kept.refl _ W).grown hr (λk e=> .inl e);refine⟨h.gp.rd.offF k h1 (λi e=>Nat.le_of_lt (hge i e)),h.gp.res.kept k (λe=>by have:=hge _ e;omega),h.gp.bx.kept k h2,λp l ht hn=>⟨ht.keptS k (hnf p hn),hn.kept k (hnf p hn)⟩⟩
theorem GE9.growI {y:Itv} {ip':Option Addr} {ic':Nat} (h:GE9 w0 W 133 g gx g3 zs bad x cs y.p y.i.t) (ho:W'.ownsRow w0.heap.size 133 3 (.slice ip' (x.its.length+1) ic') (x.its.length+1) (x.its.flatMap iv++[y].flatMap iv)) (hr:W.grownBy W' (Value.slice x.ip x.its.length x.ic).ownBlock) (hl:x.its.length+1≤1000000):
  Blk W' gx 80 (sv x)∧GP9 w0 (W'.setCell ⟨gx,1,none⟩ (.slice ip' (x.its.length+1) ic')) g gx zs bad { x with its:=x.its++[y],ip:=ip',ic:=ic' } :=by
 obtain⟨ds,hg⟩:=h.gp.rd.blk;have y9:=h.gp.ys;obtain⟨r1,r2,r3,r4⟩:=h.grow hr (λk e=>by have h1:=(y9.its.lt k e).1;rcases Nat.lt_or_eq_of_le h1 with q |q;exact q;subst q;exact absurd e (own_apart y9.its h.gp.res (by decide))) (own_apart y9.its hg (by decide)) (own_apart y9.its h.gp.bx (by decide)) (λp hn a ha e=>by
  obtain⟨bs,hbs⟩:=hn.ty a ha;exact own_apart y9.its hbs (by decide) e)
 refine⟨r3,?_⟩;have hk:Kept (λk=>k=gx) W' (W'.setCell ⟨gx,1,none⟩ (.slice ip' (x.its.length+1) ic')):=Kept.setCell (F:=λk=>k=gx) (Kept.refl _ _) (p:=⟨gx,1,none⟩) (.inl rfl) _;have hn:=h.gp.nr;obtain⟨ds2,hg2⟩:=r1.blk;refine⟨r1.off hk (λe=>r3.apart hg2 (by decide) e.symm) (by omega),r2.kept hk (by omega),?_,h.gp.nr,h.gp.ng,?_⟩
 ·have:=r3.store 1 (.slice ip' (x.its.length+1) ic');rw[show sv { x with its:=x.its++[y],ip:=ip',ic:=ic' } =(sv x).set 1 (.slice ip' (x.its.length+1) ic') by simp[sv]];exact this
 ·refine YS.kept (g:=gx) (W:=W') ?_ hk r3;refine⟨by rw[show(x.its++[y]).length=x.its.length+1 by simp,List.flatMap_append];exact ho,λz hz=>?_,own_grown y9.wts y9.its hr (by decide),λz hz=>r4 _ _ (y9.wt z hz).1 (y9.wt z hz).2,y9.l4,λz hz=>r4 _ _ (y9.la z hz).1 (y9.la z hz).2,by show(x.its++[y]).length≤_;simpa using hl,y9.m⟩;rcases List.mem_append.1 hz with hz |hz
  ·exact r4 _ _ (y9.it z hz).1 (y9.it z hz).2
  ·rw[List.mem_singleton.1 hz];exact r4 _ _ h.tr h.nf
theorem GE9.growW {y:Wtv} {ip':Option Addr} {ic':Nat} (h:GE9 w0 W 136 g gx g3 zs bad x cs y.p y.x.p) (ho:W'.ownsRow w0.heap.size 136 4 (.slice ip' (x.wts.length+1) ic') (x.wts.length+1) (x.wts.flatMap wv++[y].flatMap wv)) (hr:W.grownBy W' (Value.slice x.wp x.wts.length x.wc).ownBlock) (hl:x.wts.length+1≤1000000):
  Blk W' gx 80 (sv x)∧GP9 w0 (W'.setCell ⟨gx,2,none⟩ (.slice ip' (x.wts.length+1) ic')) g gx zs bad { x with wts:=x.wts++[y],wp:=ip',wc:=ic' } :=by
 obtain⟨ds,hg⟩:=h.gp.rd.blk;have y9:=h.gp.ys;obtain⟨r1,r2,r3,r4⟩:=h.grow hr (λk e=>by have h1:=(y9.wts.lt k e).1;rcases Nat.lt_or_eq_of_le h1 with q |q;exact q;subst q;exact absurd e (own_apart y9.wts h.gp.res (by decide))) (own_apart y9.wts hg (by decide)) (own_apart y9.wts h.gp.bx (by decide)) (λp hn a ha e=>by
  obtain⟨bs,hbs⟩:=hn.ty a ha;exact own_apart y9.wts hbs (by decide) e)
 refine⟨r3,?_⟩;have hk:Kept (λk=>k=gx) W' (W'.setCell ⟨gx,2,none⟩ (.slice ip' (x.wts.length+1) ic')):=Kept.setCell (F:=λk=>k=gx) (Kept.refl _ _) (p:=⟨gx,2,none⟩) (.inl rfl) _;have hn:=h.gp.nr;obtain⟨ds2,hg2⟩:=r1.blk;refine⟨r1.off hk (λe=>r3.apart hg2 (by decide) e.symm) (by omega),r2.kept hk (by omega),?_,h.gp.nr,h.gp.ng,?_⟩
 ·have:=r3.store 2 (.slice ip' (x.wts.length+1) ic');rw[show sv { x with wts:=x.wts++[y],wp:=ip',wc:=ic' } =(sv x).set 2 (.slice ip' (x.wts.length+1) ic') by simp[sv]];exact this
 ·refine YS.kept (g:=gx) (W:=W') ?_ hk r3;refine⟨own_grown y9.its y9.wts hr (by decide),λz hz=>r4 _ _ (y9.it z hz).1 (y9.it z hz).2,by rw[show(x.wts++[y]).length=x.wts.length+1 by simp,List.flatMap_append];exact ho,λz hz=>?_,y9.l4,λz hz=>r4 _ _ (y9.la z hz).1 (y9.la z hz).2,y9.n,by show(x.wts++[y]).length≤_;simpa using hl⟩;rcases List.mem_append.1 hz with hz |hz
  ·exact r4 _ _ (y9.wt z hz).1 (y9.wt z hz).2
  ·rw[List.mem_singleton.1 hz];exact r4 _ _ h.tr h.nf
end
theorem hRow_stop {α:Type} {h:Src→α×Src} {s:Src} {j:Nat} (hb:(hRow h s j).2.bad=true):∀ i,hRow h s (j+i)=hRow h s j
 |0=>rfl
 |i+1=>by
  have e:=hRow_stop hb i
  show(if (hRow h s (j+i)).2.bad then hRow h s (j+i) else _)=_
  rw[e,if_pos hb]
theorem hRow_len {α:Type} (h:Src→α×Src) (s:Src):∀ k,(hRow h s k).1.length≤k
 |0=>Nat.le_refl _
 |k+1=>by
  have:=hRow_len h s k
  show(if (hRow h s k).2.bad then hRow h s k else((hRow h s k).1 ++[_],_)).1.length≤k+1
  split
  ·omega
  ·simp;omega
theorem hgnum_t (g:Nat) (s:Src) (n:Nat) (w0 w:World) (x:Rr w0 w g s.xs s.bad) (hb:Bytes s.xs) (h1:1≤n) (h2:n≤8):
  Calls Tryz.prog 87 #[.pointer (some ⟨g,0,none⟩),.int .i64 (n:Int)] w λe w'=>e= .returned (.int .u64 ((gNum s n).1 :Nat))∧Rr w0 w' g (gNum s n).2.xs (gNum s n).2.bad∧Kept (λk=>k=g) w w':=rrnum_t g s.xs s.bad n w0 w x hb h1 h2
theorem hnm_t (g:Nat) (s:Src) (w0 w:World) (x:Rr w0 w g s.xs s.bad) (hb:Bytes s.xs):
  Calls Tryz.prog 86 #[.pointer (some ⟨g,0,none⟩)] w λe w'=>e= .returned (.int .i64 (hNm s).1)∧Rr w0 w' g (hNm s).2.xs (hNm s).2.bad∧Kept (λk=>k=g) w w':=by
 have h:=number_t g s.xs s.bad w0 w x hb (rNum s.xs s.bad 8).1 (rNum s.xs s.bad 8).2.1 (rNum s.xs s.bad 8).2.2 rfl
 by_cases hv:4611686018427387904≤(rNum s.xs s.bad 8).1
 ·rw[show nmb (rNum s.xs s.bad 8).1 (rNum s.xs s.bad 8).2.1 (rNum s.xs s.bad 8).2.2 =(0,[],true) from if_pos hv] at h;rw[show hNm s=(0,deadS) from if_pos hv];exact h
 ·rw[show nmb (rNum s.xs s.bad 8).1 (rNum s.xs s.bad 8).2.1 (rNum s.xs s.bad 8).2.2 =rNum s.xs s.bad 8 from if_neg hv] at h;rw[show hNm s=(((gNum s 8).1 :Int),(gNum s 8).2) from if_neg hv];exact h
theorem hyes_t (g:Nat) (s:Src) (w0 w:World) (x:Rr w0 w g s.xs s.bad) (hb:Bytes s.xs):
  Calls Tryz.prog 89 #[.pointer (some ⟨g,0,none⟩)] w λe w'=>e= .returned (.bool (hYes s).1)∧Rr w0 w' g (hYes s).2.xs (hYes s).2.bad∧Kept (λk=>k=g) w w':=by
 have h:=yes_t g s.xs s.bad w0 w x hb (rNum s.xs s.bad 1).1 (rNum s.xs s.bad 1).2.1 (rNum s.xs s.bad 1).2.2 rfl
 by_cases hv:1< (rNum s.xs s.bad 1).1
 ·rw[show yesN (rNum s.xs s.bad 1).1 (rNum s.xs s.bad 1).2.1 (rNum s.xs s.bad 1).2.2 =(false,[],true) from if_pos hv] at h;rw[show hYes s=(false,deadS) from if_pos hv];exact h
 ·rw[show yesN (rNum s.xs s.bad 1).1 (rNum s.xs s.bad 1).2.1 (rNum s.xs s.bad 1).2.2 =(decide ((rNum s.xs s.bad 1).1 =1),(rNum s.xs s.bad 1).2.1,(rNum s.xs s.bad 1).2.2) from if_neg hv] at h;rw[show hYes s=(decide ((gNum s 1).1 =1),(gNum s 1).2) from if_neg hv];exact h
theorem smN_bytes (xs:List Nat) (bad:Bool) (h:Bytes xs):Bytes (smN xs bad).1 ∧Bytes (smN xs bad).2.1 ∧(smN xs bad).2.1.length≤xs.length:=by
 have hr:=rNum_bytes xs bad 4 h;have ht:=rTxtM_text xs bad 1000 h;unfold smN
 split
 ·refine⟨ht.1,?_,?_⟩
  ·unfold rTxtM;split
   ·exact bytes_drop hr.1 _
   ·exact nil_bytes
  ·unfold rTxtM;split
   ·show((rNum xs bad 4).2.1.drop _).length≤_;rw[List.length_drop];omega
   ·exact Nat.zero_le _
 ·exact⟨nil_bytes,nil_bytes,Nat.zero_le _⟩
theorem hsm_t (g:Nat) (s:Src) (w0 w:World) (x:Rr w0 w g s.xs s.bad) (hb:Bytes s.xs) (hl:s.xs.length≤1000000):
  Calls Tryz.prog 88 #[.pointer (some ⟨g,0,none⟩)] w λe w'=>(∃ A c,e= .returned (.slice A (hSm s).1.length c)∧TR w' A (hSm s).1 ∧NF w' w.heap.size A)∧Rr w0 w' g (hSm s).2.xs (hSm s).2.bad∧Kept (λk=>k=g) w w':=by
 have hb1:=(smN_bytes s.xs s.bad hb).1;refine(some_t g s.xs s.bad w0 w x hb hl (smN s.xs s.bad).1 (smN s.xs s.bad).2.1 (smN s.xs s.bad).2.2 rfl).mono ?_
 rintro e w' ⟨⟨A,c,rfl,r,n⟩,x2,k2⟩
 refine⟨⟨A,c,by rw[show(hSm s).1.length=fNr (smN s.xs s.bad).1 from fl_length _ _],tr_flS r (fNr_le _ hb1),n⟩,x2,k2⟩
theorem hNm_bytes {s:Src} (h:Bytes s.xs):Bytes (hNm s).2.xs∧(hNm s).2.xs.length≤s.xs.length:=by
 unfold hNm
 split
 ·exact⟨nil_bytes,Nat.zero_le _⟩
 ·exact⟨gNum_bytes 8 h,gNum_len s 8⟩
theorem hYes_bytes {s:Src} (h:Bytes s.xs):Bytes (hYes s).2.xs∧(hYes s).2.xs.length≤s.xs.length:=by
 unfold hYes
 split
 ·exact⟨nil_bytes,Nat.zero_le _⟩
 ·exact⟨gNum_bytes 1 h,gNum_len s 1⟩
theorem hSm_bytes {s:Src} (h:Bytes s.xs):Bytes (hSm s).2.xs∧(hSm s).2.xs.length≤s.xs.length:=(smN_bytes s.xs s.bad h).2
structure StI9 (u u1 u2 u3:Src) (v:Nat) (un:Int) (t:List Fld):Prop where
 e1:gNum u 1=(v,u1)
 e2:hNm u1=(un,u2)
 e3:hSm u2=(t,u3)
 b0:Bytes u.xs
 b1:Bytes u1.xs
 b2:Bytes u2.xs
 b3:Bytes u3.xs
 l2:u2.xs.length≤u.xs.length
 l3:u3.xs.length≤u.xs.length
 v8:v<256
 it:hIt u=(⟨(v:Int),un,t⟩,u3)
theorem stI9 (u:Src) (h:Bytes u.xs):∃ u1 u2 u3 v un t,StI9 u u1 u2 u3 v un t:=by
 obtain⟨⟨v,u1⟩,E1⟩:∃ r,gNum u 1=r:=⟨_,rfl⟩;obtain⟨⟨un,u2⟩,E2⟩:∃ r,hNm u1=r:=⟨_,rfl⟩;obtain⟨⟨t,u3⟩,E3⟩:∃ r,hSm u2=r:=⟨_,rfl⟩;have b1:Bytes u1.xs:=by have:=gNum_bytes 1 h;rwa [E1] at this
 have l1:u1.xs.length≤u.xs.length:=by have:=gNum_len u 1;rwa [E1] at this
 have b2:Bytes u2.xs∧u2.xs.length≤u1.xs.length:=by have:=hNm_bytes b1;rwa [E2] at this
 have b3:Bytes u3.xs∧u3.xs.length≤u2.xs.length:=by have:=hSm_bytes b2.1;rwa [E3] at this
 have v8:v<256:=by have:=gNum_lt (n:=1) h;rwa [E1] at this
 have q2:=b2.2;have q3:=b3.2;exact⟨u1,u2,u3,v,un,t,E1,E2,E3,h,b1,b2.1,b3.1,by omega,by omega,v8,by unfold hIt;simp only[E1,E2,E3]⟩
structure StW9 (u u1 u2 u3 u4:Src) (v q:Nat) (f:Bool) (t:List Fld):Prop where
 e1:gNum u 1=(v,u1)
 e2:gNum u1 4=(q,u2)
 e3:hYes u2=(f,u3)
 e4:hSm u3=(t,u4)
 b0:Bytes u.xs
 b1:Bytes u1.xs
 b2:Bytes u2.xs
 b3:Bytes u3.xs
 b4:Bytes u4.xs
 l3:u3.xs.length≤u.xs.length
 l4:u4.xs.length≤u.xs.length
 v8:v<256
 q32:q<4294967296
 it:hWt u=(⟨(v:Int),(q:Int),f,t⟩,u4)
theorem stW9 (u:Src) (h:Bytes u.xs):∃ u1 u2 u3 u4 v q f t,StW9 u u1 u2 u3 u4 v q f t:=by
 obtain⟨⟨v,u1⟩,E1⟩:∃ r,gNum u 1=r:=⟨_,rfl⟩;obtain⟨⟨q,u2⟩,E2⟩:∃ r,gNum u1 4=r:=⟨_,rfl⟩;obtain⟨⟨f,u3⟩,E3⟩:∃ r,hYes u2=r:=⟨_,rfl⟩;obtain⟨⟨t,u4⟩,E4⟩:∃ r,hSm u3=r:=⟨_,rfl⟩;have b1:Bytes u1.xs:=by have:=gNum_bytes 1 h;rwa [E1] at this
 have l1:u1.xs.length≤u.xs.length:=by have:=gNum_len u 1;rwa [E1] at this
 have b2:Bytes u2.xs:=by have:=gNum_bytes 4 b1;rwa [E2] at this
 have l2:u2.xs.length≤u1.xs.length:=by have:=gNum_len u1 4;rwa [E2] at this
 have b3:Bytes u3.xs∧u3.xs.length≤u2.xs.length:=by have:=hYes_bytes b2;rwa [E3] at this
 have b4:Bytes u4.xs∧u4.xs.length≤u3.xs.length:=by have:=hSm_bytes b3.1;rwa [E4] at this
 have v8:v<256:=by have:=gNum_lt (n:=1) h;rwa [E1] at this
 have v32:q<4294967296:=by have:=gNum_lt (n:=4) b1;rwa [E2] at this
 have q3:=b3.2;have q4:=b4.2;exact⟨u1,u2,u3,u4,v,q,f,t,E1,E2,E3,E4,h,b1,b2,b3.1,b4.1,by omega,by omega,v8,v32,by unfold hWt;simp only[E1,E2,E3,E4]⟩
structure StL9 (u u1 u2 u3 u4:Src) (c:Int) (q k:Nat) (f:Bool) (t:List Fld):Prop where
 e1:gNum u 4=(q,u1)
 e2:gNum u1 1=(k,u2)
 e3:hYes u2=(f,u3)
 e4:hSm u3=(t,u4)
 b0:Bytes u.xs
 b1:Bytes u1.xs
 b2:Bytes u2.xs
 b3:Bytes u3.xs
 b4:Bytes u4.xs
 l3:u3.xs.length≤u.xs.length
 l4:u4.xs.length≤u.xs.length
 q32:q<4294967296
 k8:k<256
 it:hLa c u=(⟨c,(q:Int),(k:Int),t,f⟩,u4)
theorem stL9 (c:Int) (u:Src) (h:Bytes u.xs):∃ u1 u2 u3 u4 q k f t,StL9 u u1 u2 u3 u4 c q k f t:=by
 obtain⟨⟨q,u1⟩,E1⟩:∃ r,gNum u 4=r:=⟨_,rfl⟩;obtain⟨⟨k,u2⟩,E2⟩:∃ r,gNum u1 1=r:=⟨_,rfl⟩;obtain⟨⟨f,u3⟩,E3⟩:∃ r,hYes u2=r:=⟨_,rfl⟩;obtain⟨⟨t,u4⟩,E4⟩:∃ r,hSm u3=r:=⟨_,rfl⟩;have b1:Bytes u1.xs:=by have:=gNum_bytes 4 h;rwa [E1] at this
 have l1:u1.xs.length≤u.xs.length:=by have:=gNum_len u 4;rwa [E1] at this
 have b2:Bytes u2.xs:=by have:=gNum_bytes 1 b1;rwa [E2] at this
 have l2:u2.xs.length≤u1.xs.length:=by have:=gNum_len u1 1;rwa [E2] at this
 have b3:Bytes u3.xs∧u3.xs.length≤u2.xs.length:=by have:=hYes_bytes b2;rwa [E3] at this
 have b4:Bytes u4.xs∧u4.xs.length≤u3.xs.length:=by have:=hSm_bytes b3.1;rwa [E4] at this
 have v32:q<4294967296:=by have:=gNum_lt (n:=4) h;rwa [E1] at this
 have v8:k<256:=by have:=gNum_lt (n:=1) b1;rwa [E2] at this
 have q3:=b3.2;have q4:=b4.2;exact⟨u1,u2,u3,u4,q,k,f,t,E1,E2,E3,E4,h,b1,b2,b3.1,b4.1,by omega,by omega,v32,v8,by unfold hLa;simp only[E1,E2,E3,E4]⟩
theorem hIt_bytes {s:Src} (h:Bytes s.xs):Bytes (hIt s).2.xs∧(hIt s).2.xs.length≤s.xs.length:=by
 obtain⟨_,_,_,_,_,_,st⟩:=stI9 s h;rw[st.it];exact⟨st.b3,st.l3⟩
theorem hWt_bytes {s:Src} (h:Bytes s.xs):Bytes (hWt s).2.xs∧(hWt s).2.xs.length≤s.xs.length:=by
 obtain⟨_,_,_,_,_,_,_,_,st⟩:=stW9 s h;rw[st.it];exact⟨st.b4,st.l4⟩
theorem hLa_bytes {c:Int} {s:Src} (h:Bytes s.xs):Bytes (hLa c s).2.xs∧(hLa c s).2.xs.length≤s.xs.length:=by
 obtain⟨_,_,_,_,_,_,_,_,st⟩:=stL9 c s h;rw[st.it];exact⟨st.b4,st.l4⟩
theorem hRow_bytes {α:Type} {g:Src→α×Src} (hb:∀ {s:Src},Bytes s.xs→Bytes (g s).2.xs∧(g s).2.xs.length≤s.xs.length) {s:Src} (h:Bytes s.xs):∀ k,Bytes (hRow g s k).2.xs∧(hRow g s k).2.xs.length≤s.xs.length
 |0=>⟨h,Nat.le_refl _⟩
 |k+1=>by
  have:=hRow_bytes hb h k
  show Bytes (if (hRow g s k).2.bad then hRow g s k else(_,(g (hRow g s k).2).2)).2.xs∧(if (hRow g s k).2.bad then hRow g s k else(_,(g (hRow g s k).2).2)).2.xs.length≤_
  split
  ·exact this
  ·exact⟨(hb this.1).1,Nat.le_trans (hb this.1).2 this.2⟩
theorem hLas_bytes {s:Src} (h:Bytes s.xs):∀ k,Bytes (hLas s k).2.xs∧(hLas s k).2.xs.length≤s.xs.length
 |0=>⟨h,Nat.le_refl _⟩
 |k+1=>by
  have:=hLas_bytes h k;have h2:=hLa_bytes (c:=(k:Int)) this.1;exact⟨h2.1,Nat.le_trans h2.2 this.2⟩
end Go.Proofs.YtjlophplcmidlaaGreatDoor
