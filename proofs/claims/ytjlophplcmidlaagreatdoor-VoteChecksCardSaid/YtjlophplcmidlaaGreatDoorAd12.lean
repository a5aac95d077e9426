/-
  PACKAGE state, what is pure
  A READER WHOSE BYTES LIE IN CERTAIN BLOCKS
  PACKAGE space
-/
import Derived.Test.YtjlophplcmidlaaGreatDoorAd11
import Derived.Test.YtjlophplcmidlaaGreatDoorAd10
open Go.Lib (hid)
namespace Go.Proofs.YtjlophplcmidlaaGreatDoor
open Go Go.RowKit Sh
structure Src where
 xs:List Nat
 bad:Bool
 wr:Bool
def gNum (s:Src) (n:Nat):Nat×Src:=((rNum s.xs s.bad n).1,⟨(rNum s.xs s.bad n).2.1,(rNum s.xs s.bad n).2.2,s.wr⟩)
def gFlag (s:Src):Bool×Src:=(((gNum s 1).1 == 1), { (gNum s 1).2 with wr:=s.wr || decide (1< (gNum s 1).1) })
def sTxt (s:Src):=rTxt s.xs s.bad s.xs.length
def gFl (s:Src):List Fld×Src:=(fl (fNr (sTxt s).1) (gotN (sTxt s).1),⟨(sTxt s).2.1,(sTxt s).2.2,s.wr || !fOK (sTxt s).1⟩)
def i64N (v:Nat):Int:=IntKind.i64.wrap (v:Int)
def gIt (s:Src):It×Src:=
 let a:=gNum s 1
 let b:=gNum a.2 8
 let c:=gFl b.2
 (⟨a.1,i64N b.1,c.1⟩,c.2)
def gWt (s:Src):Wt×Src:=
 let a:=gNum s 1
 let b:=gNum a.2 4
 let c:=gFlag b.2
 let d:=gFl c.2
 (⟨a.1,b.1,c.1,d.1⟩,d.2)
def gLa (c:Int) (s:Src):Rp×Src:=
 let a:=gNum s 4
 let b:=gNum a.2 1
 let d:=gFlag b.2
 let e:=gFl d.2
 (⟨c,a.1,b.1,e.1,d.1⟩,e.2)
def gRow {α:Type} (g:Src→α×Src) (s:Src):Nat→List α×Src
 |0=>([],s)
 |j+1=>((gRow g s j).1 ++[(g (gRow g s j).2).1],(g (gRow g s j).2).2)
def gLas (s:Src):Nat→List Rp×Src
 |0=>([],s)
 |j+1=>((gLas s j).1 ++[(gLa (j:Int) (gLas s j).2).1],(gLa (j:Int) (gLas s j).2).2)
def sSrc (xs:List Nat):Src:=⟨xs,false,false⟩
def tS1 (xs:List Nat):=gNum (sSrc xs) 8
def tS2 (xs:List Nat):=gNum (tS1 xs).2 1
def tS3 (xs:List Nat):=gNum (tS2 xs).2 1
def tS4 (xs:List Nat):=gNum (tS3 xs).2 1
def tS5 (xs:List Nat):=gRow gIt (tS4 xs).2 (tS4 xs).1
def tS6 (xs:List Nat):=gNum (tS5 xs).2 1
def tS7 (xs:List Nat):=gRow gWt (tS6 xs).2 (tS6 xs).1
def tS8 (xs:List Nat):=gLas (tS7 xs).2 4
def gotS (xs:List Nat):Sp:=⟨i64N (tS1 xs).1,(tS5 xs).1,(tS7 xs).1,(tS2 xs).1,(tS3 xs).1,(tS8 xs).1⟩
def endS (s:Src):Nat:=if s.wr then 2 else endN s.xs s.bad
def okS (xs:List Nat):Bool:=decide (endS (tS8 xs).2 =0) && spMay (gotS xs)
def InL (t:List Fld):Prop:=∀ f∈t,InR f
structure InS (s:Sp):Prop where
 it:∀ i∈s.its,InL i.t
 wt:∀ x∈s.wts,InL x.p
 la:∀ r∈s.last,InL r.t
def pF (t:List Fld):Prop:=t.length=0∨pT t=true
theorem clB_h {c:Int} (h:clB c=true):0≤c∧c<4:=by
 unfold clB at h
 simpa using h
theorem vT_pF {t:List Fld} (h:vT t=true):pF t:= .inr (mayV_P h)
theorem lastB_h {un now:Int} (h:lastB un now=true) (h0:0≤now):0≤un∧un≤2199023255552:=by
 unfold lastB at h;simp only[Bool.or_eq_true,Bool.and_eq_true,beq_iff_eq,decide_eq_true_eq] at h;omega
theorem itB_h9 {now:Int} {i:It} (h:itB now i=true) (h0:0≤now):0≤i.own∧i.own<4∧0≤i.un∧i.un≤2199023255552∧pF i.t:=by
 unfold itB at h;simp only[Bool.and_eq_true] at h;have a:=clB_h h.1;have b:=lastB_h h.2.1 h0;exact⟨a.1,a.2,b.1,b.2,vT_pF h.2.2⟩
theorem gRow_len {α:Type} (g:Src→α×Src) (s:Src):∀ k,(gRow g s k).1.length=k
 |0=>rfl
 |k+1=>by
  show((gRow g s k).1 ++[_]).length=_
  rw[List.length_append,gRow_len g s k];rfl
theorem gNum_bytes {s:Src} (n:Nat) (h:Bytes s.xs):Bytes (gNum s n).2.xs:=(rNum_bytes s.xs s.bad n h).1
theorem gFlag_bytes {s:Src} (h:Bytes s.xs):Bytes (gFlag s).2.xs:=gNum_bytes 1 h
theorem gFl_bytes {s:Src} (h:Bytes s.xs):Bytes (gFl s).2.xs:=(rTxt_bytes s.xs s.bad _ h).1
theorem gIt_bytes {s:Src} (h:Bytes s.xs):Bytes (gIt s).2.xs:=gFl_bytes (gNum_bytes 8 (gNum_bytes 1 h))
theorem gWt_bytes {s:Src} (h:Bytes s.xs):Bytes (gWt s).2.xs:=gFl_bytes (gFlag_bytes (gNum_bytes 4 (gNum_bytes 1 h)))
theorem gRow_bytes {α:Type} {g:Src→α×Src} (hb:∀ s,Bytes s.xs→Bytes (g s).2.xs) {s:Src} (h:Bytes s.xs):∀ k,Bytes (gRow g s k).2.xs
 |0=>h
 |k+1=>hb _ (gRow_bytes hb h k)
structure MayW (s:Sp):Prop where
 n0:0≤s.now
 n1:s.now≤1099511627776
 r0:0≤s.rd
 r1:s.rd≤15
 w0:0≤s.wr
 w1:s.wr≤15
 il:s.its.length≤64
 it:∀ i∈s.its,itB s.now i=true
 wl:s.wts.length≤16
 wt:∀ x∈s.wts,wtB x=true
 la:lasB 0 s.last=true
theorem spMay_w {s:Sp} (h:spMay s=true):MayW s:=by
 unfold spMay alB itsB wtsB at h;simp only[Bool.and_eq_true,decide_eq_true_eq,List.all_eq_true] at h;obtain⟨h1,h2,⟨h3,h4⟩,⟨h5,h6⟩,⟨h7,h8,_⟩,⟨h9,h10⟩,h11⟩:=h;exact⟨h1,h2,h3,h4,h5,h6,h7,h8,h9,h10,h11⟩
theorem RdF.nil {F:Nat→Prop} {w:World} {g:Nat} {b:Bool} (x:Rd w g [] b):RdF F w g [] b:=by
 obtain⟨A,c,h1,h2,h3⟩:=x.is;exact⟨⟨A,c,h1,h2,h3,λh=>absurd h (by decide)⟩,λ_=>rfl⟩
set_option maxHeartbeats 400000 in
theorem rnum_okF (F:Nat→Prop) (g:Nat) (xs:List Nat) (bad:Bool) (n:Nat) (w:World) (x:RdF F w g xs bad) (hb:Bytes xs) (h1:1≤n) (h2:n≤8) (hn:n≤xs.length):
  Calls Tryz.prog 50 #[.pointer (some ⟨g,0,none⟩),.int .i64 n] w λe w'=>e= .returned (.int .u64 (val (xs.take n):Nat))∧RdF F w' g (xs.drop n) bad∧Kept (λk=>k=g) w w':=by
 have HT:=hid (take_F F g xs bad n w x hn);have HB:=hid hb;clear x
 go_enter Tryz.func50,Tryz.ntmps50
 go_wp2_with (first
  |(go_at_call 75;refine(wide_yes n _ (by omega) (by omega)).mono ?_;rintro e w2 ⟨rfl,rfl⟩)
  |(go_at_call 84;refine(HT.out).mono ?_;rintro e w2 ⟨⟨A,c,rfl,hc,hs⟩,x2,k2⟩;have X2:=hid x2;have K2:=hid k2;have HS:=hid hs;clear x2 k2 hs))
 obtain⟨b,o,rfl,_,hby⟩:=HS.out (by rw[List.length_take];omega);have HBY:=hid hby
 clear hby HT
 go_loop [6,18] (λv i=>∃ k:Nat,k≤n∧v= .int .u64 (val (xs.take k):Nat)∧i= .int .i64 k) (λ_ i=>n- (intOf i).toNat)
 case atStart=>exact⟨0,by omega,rfl,rfl⟩
 case round=>
  obtain⟨k,hk,rfl,rfl⟩:=hrel
  by_cases hlt:k<n
  ·have c0:=HBY.out k (by rw[List.length_take];omega);have e0:gt (xs.take n) k=gt xs k:=by simp[gt,List.getD_eq_getElem?_getD,hlt]
   rw[e0] at c0;clear e0;have b0:=HB.out k
   go_wp2
   go_round
   case rel=>
    refine⟨k+1,by omega,?_,by go_num⟩;rw[or_step _ _ (val_small _ (bytes_take HB.out k) (by rw[List.length_take];omega)) b0,List.take_succ_eq_append_getElem (by omega),val_snoc,←gt_of_lt]
   case measure=>simp[intOf];omega
  ·obtain rfl:k=n:=by omega
   go_wp2
   go_ret;exact⟨rfl,X2.out,K2.out⟩
theorem rtext_okF (F:Nat→Prop) (g:Nat) (xs:List Nat) (bad:Bool) (most:Int) (w:World) (x:RdF F w g xs bad) (hb:Bytes xs) (hm: -9223372036854775808≤most∧most≤9223372036854775807) (hl:xs.length≤70368744177664) (hn:4≤xs.length) (s:Nat) (hs:val (xs.take 4)=s) (h1:s≤most.toNat) (h2:s≤xs.length-4):
  Calls Tryz.prog 52 #[.pointer (some ⟨g,0,none⟩),.int .i64 most] w λe w'=>∃ v,e= .returned v∧w'.ownsRow w.heap.size 5 1 v s (u8s ((xs.drop 4).take s))∧RdF F w' g ((xs.drop 4).drop s) bad∧Kept (λk=>k=g) w w':=by
 have HT:=hid (rnum_okF F g xs bad 4 w x hb (by omega) (by omega) hn);have hv:val (xs.take 4)<4294967296:=by have:=val_lt (xs.take 4) (bytes_take hb 4);rw[List.length_take,Nat.min_eq_left hn] at this;exact this
 have hlen:(xs.drop 4).length=xs.length-4:=List.length_drop;rw[hs] at HT hv
 generalize xs.drop 4=ys at *
 rw[←hlen] at h2;have hyl:ys.length≤70368744177664:=by omega
 clear x hn hb hl hlen hs;obtain⟨hm1,hm2⟩:=hm;rcases(show most<0∨0≤most by omega) with h0 |h0
 ·have hs0:s=0:=by omega
  subst hs0
  go_enter Tryz.func52,Tryz.ntmps52
  go_wp2_with fail
  refine HT.out.mono ?_
  rintro e w1 ⟨rfl,x1,k1⟩
  have X1:=hid x1;have K1:=hid k1;clear x1 k1 HT
  go_wp2_with (first
   |(go_at_call 85;refine(left_t g ys bad _ (by exact X1.out.rd)).mono ?_;rintro e w2 ⟨rfl,rfl⟩)
   |(go_at_call 51;refine(raw_F F g ys bad 0 _ (by exact X1.out) (Nat.zero_le _) hyl).mono ?_;rintro e w2 ⟨v,rfl,o2,x2,k2⟩;have O2:=hid o2;have X2:=hid x2;have K2:=hid k2;clear o2 x2 k2))
  go_ret;exact⟨v,rfl,own_base O2.out (λk hk=>by have h1:=K1.out.size;have h2:=O2.out.lt k hk;omega),X2.out,K1.out.trans K2.out⟩
 ·obtain⟨m,rfl⟩:=Int.eq_ofNat_of_zero_le h0;have hsm:s≤m:=by omega
  clear h1
  go_enter Tryz.func52,Tryz.ntmps52
  go_wp2_with fail
  refine HT.out.mono ?_
  rintro e w1 ⟨rfl,x1,k1⟩
  have X1:=hid x1;have K1:=hid k1;clear x1 k1 HT
  go_wp2_with (first
   |(go_at_call 85;refine(left_t g ys bad _ (by exact X1.out.rd)).mono ?_;rintro e w2 ⟨rfl,rfl⟩)
   |(go_at_call 51;refine(raw_F F g ys bad s _ (by exact X1.out) h2 hyl).mono ?_;rintro e w2 ⟨v,rfl,o2,x2,k2⟩;have O2:=hid o2;have X2:=hid x2;have K2:=hid k2;clear o2 x2 k2))
  go_ret;exact⟨v,rfl,own_base O2.out (λk hk=>by have h1:=K1.out.size;have h2:=O2.out.lt k hk;omega),X2.out,K1.out.trans K2.out⟩
theorem rnum_F (F:Nat→Prop) (g:Nat) (xs:List Nat) (bad:Bool) (n:Nat) (w:World) (x:RdF F w g xs bad) (hb:Bytes xs) (h1:1≤n) (h2:n≤8):
  Calls Tryz.prog 50 #[.pointer (some ⟨g,0,none⟩),.int .i64 n] w λe w'=>e= .returned (.int .u64 ((rNum xs bad n).1 :Nat))∧RdF F w' g (rNum xs bad n).2.1 (rNum xs bad n).2.2 ∧Kept (λk=>k=g) w w':=by
 unfold rNum
 by_cases h:xs.length<n
 ·rw[if_pos h];refine(rnum_short g xs bad n w x.rd h1 h2 h).mono ?_
  rintro e w' ⟨rfl,r,k⟩
  exact⟨rfl,.nil r,k⟩
 ·rw[if_neg h];exact rnum_okF F g xs bad n w x hb h1 h2 (by omega)
theorem rtxt_F (F:Nat→Prop) (g:Nat) (xs:List Nat) (bad:Bool) (most:Nat) (w:World) (x:RdF F w g xs bad) (hb:Bytes xs) (hm:most≤1000000) (hl:xs.length≤70368744177664):
  Calls Tryz.prog 52 #[.pointer (some ⟨g,0,none⟩),.int .i64 (most:Int)] w λe w'=>∃ v,e= .returned v∧w'.ownsRow w.heap.size 5 1 v (rTxt xs bad most).1.length (u8s (rTxt xs bad most).1)∧RdF F w' g (rTxt xs bad most).2.1 (rTxt xs bad most).2.2 ∧Kept (λk=>k=g) w w':=by
 unfold rTxt
 by_cases h:4≤xs.length∧val (xs.take 4)≤most∧val (xs.take 4)≤xs.length-4
 ·rw[if_pos h];refine(rtext_okF F g xs bad (most:Int) w x hb (by omega) hl h.1 _ rfl (by simpa using h.2.1) h.2.2).mono ?_
  rintro e w' ⟨v,rfl,o,r,k⟩
  refine⟨v,rfl,?_,r,k⟩
  show w'.ownsRow w.heap.size _ 1 v ((xs.drop 4).take (val (xs.take 4))).length _
  rw[List.length_take,List.length_drop,Nat.min_eq_left h.2.2];exact o
 ·rw[if_neg h]
  by_cases h4:xs.length<4
  ·refine(rtext_short g xs bad (most:Int) w x.rd (by omega) h4).mono ?_
   rintro e w' ⟨v,rfl,o,r,k⟩
   exact⟨v,rfl,o,.nil r,k⟩
  ·refine(rtext_over g xs bad (most:Int) w x.rd hb (by omega) hl (by omega) (by
    have:most<val (xs.take 4)∨xs.length-4<val (xs.take 4):=by omega
    simpa using this)).mono ?_
   rintro e w' ⟨v,rfl,o,r,k⟩
   exact⟨v,rfl,o,.nil r,k⟩
theorem sv_cells {w:World} {g:Nat} {x:Spv} (h:Blk w g 80 (sv x)):
  w.cell? ⟨g,0,none⟩=some (.int .i64 x.now)∧w.cell? ⟨g,1,none⟩=some (.slice x.ip x.its.length x.ic)∧w.cell? ⟨g,2,none⟩=some (.slice x.wp x.wts.length x.wc)∧w.cell? ⟨g,3,none⟩=some (.int .i64 x.rd)∧w.cell? ⟨g,4,none⟩=some (.int .i64 x.wr):=⟨h.cell 0,h.cell 1,h.cell 2,h.cell 3,h.cell 4⟩
theorem iv_oneA (x:Itv):(iv x).toArray.all (·.oneCell')=true:=by simp[iv,Value.oneCell']
theorem wv_oneA (x:Wtv):(wv x).toArray.all (·.oneCell')=true:=by simp[wv,Value.oneCell']
theorem iv_cells {w:World} {g:Nat} {x:Itv} (h:Blk w g 133 (iv x)):
  w.cell? ⟨g,0,none⟩=some (.int .i64 x.i.own)∧w.cell? ⟨g,1,none⟩=some (.int .i64 x.i.un)∧w.cell? ⟨g,2,none⟩=some (.slice x.p x.i.t.length x.c):=⟨h.cell 0,h.cell 1,h.cell 2⟩
theorem wv_cells {w:World} {g:Nat} {x:Wtv} (h:Blk w g 136 (wv x)):
  w.cell? ⟨g,0,none⟩=some (.int .i64 x.x.cl)∧w.cell? ⟨g,1,none⟩=some (.int .i64 x.x.sq)∧w.cell? ⟨g,2,none⟩=some (.bool x.x.tk)∧w.cell? ⟨g,3,none⟩=some (.slice x.p x.x.p.length x.c):=⟨h.cell 0,h.cell 1,h.cell 2,h.cell 3⟩
end Go.Proofs.YtjlophplcmidlaaGreatDoor
