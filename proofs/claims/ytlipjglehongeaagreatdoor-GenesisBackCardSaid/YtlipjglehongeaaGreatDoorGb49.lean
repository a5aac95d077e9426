/-
  THE CARD OF GenesisBack: a genesis that begins with a space comes back from its bytes and begins with that space, cut bytes are none, in every world in which the tables of packages sha and ots hold what their texts say; the law answers true, and its arguments read as they did. (Condition: the tables 'chirograph/sha.rounds' and 'chirograph/ots.kinds' are laid as the program's text lays them; the card ties that to the text.)
-/
import Derived.Test.YtlipjglehongeaaGreatDoorGb1
import Derived.Test.YtlipjglehongeaaGreatDoorRows
import Derived.WalkKit
import Derived.ProofKit
import Derived.OpenShut
import Derived.Carry
import Derived.JoinedCond
import Derived.Deep.Matrix
import Derived.Test.YtlipjglehongeaaGreatDoorGb5
import Derived.Test.YtlipjglehongeaaGreatDoorCards
import Derived.Test.YtlipjglehongeaaGreatDoorTie
import Derived.Deep.Strs
import Derived.Deep.DeepHandedRow
import Derived.Lib.LaidTab
import Derived.LaidSub
import Derived.Test.YtlipjglehongeaaGreatDoorGb42
import Derived.ChangeSame
import Derived.Test.YtlipjglehongeaaGreatDoorGb3
import Derived.Test.YtlipjglehongeaaGreatDoorGb48
set_option maxRecDepth 100000
namespace Go.Proofs.YtlipjglehongeaaGreatDoor
open Go.ChangeShapes Go.WideShapes Go.ChangeAt Go.RowKit Go.Deep Sh
section
section
theorem ownG:ownKnob Tryz.prog.godebug=none:=by kernel_rfl
theorem laidOutG:laidOutB Tryz.prog=true:=by kernel_rfl
section
variable {H : Type} {enc : TypeId × Value → H}
theorem stayG:∀ (ts:List TypeId) (vs:List Value) (ds:List (DataW H)) (ps:List MemPlace) (W W':World),(∀ t∈ts,Tryz.prog.readableRec t=true∧t<Tryz.prog.types.size)→Below W.heap.size W W'→(∀ x∈ps,x.block<W.heap.size)→
  DataW.TrodAll enc Tryz.prog W 0 (λ_=>true) true ts vs ds ps→DataW.TrodAll enc Tryz.prog W' 0 (λb=>decide (b<W.heap.size)) true ts vs ds ps
 |[],vs,ds,ps,W,W',_,_,_,h=>by
  obtain⟨rfl,rfl,rfl⟩:=trodAll_nil h;exact trodAll_mk0
 |t::ts,vs,ds,ps,W,W',hr,hb,hlt,h=>by
  obtain⟨v,vs,d,ds,p,q,rfl,rfl,rfl,h1,h2⟩:=trodAll_cons h;exact trodAll_cons_mk (Below.trod laidOutG (hr t (List.mem_cons_self)).1 (hr t (List.mem_cons_self)).2 h1 hb (λx hx=>hlt x (List.mem_append_left _ hx)))
   (stayG ts vs ds q W W' (λu hu=>hr u (List.mem_cons_of_mem _ hu)) hb (λx hx=>hlt x (List.mem_append_right _ hx)) h2)
theorem law_postG {f:Func} {s:ChangeSpec} {W W':World} {args:Array Value} {ds gs:List (DataW H)} {before:List MemPlace} (hW:DataW.Whole enc Tryz.prog f.params.toList s.vars false W args.toList ds gs before)
  (hr:f.resultTypes= #[4]) (hv:s.vars=[]) (hfn:s.fn H (ds++gs)= { results:=[.lit (.bool true)],args:=ds }) (hp:∀ t∈f.params.toList,Tryz.prog.readableRec t=true∧t<Tryz.prog.types.size) (hb:Below W.heap.size W W'):
  s.post enc Tryz.prog f false true false false W args (.bool true) W':=by
 have hlt:=hW.lt;obtain⟨p,q,hA,hV,hpq,hz,hnd⟩:=id hW;rw[hv] at hV;obtain⟨rfl,rfl⟩:=trodVars_none hV;rw[List.append_nil] at hpq;subst hpq;refine⟨ds,[],before,[],before,[],hW,?_,?_,?_,World.keptBut_mono (λx hx=>⟨hx,Or.inr (Or.inl hx)⟩) (hb.frame (· ∈before)),λh=>by cases h⟩
 ·rw[hfn,hr];exact trodAll_mk1 (shut_bool Tryz.underlying4 _)
 ·rw[hfn];exact stayG _ _ _ _ W W' hp hb hlt hA
 ·rw[hfn,hv];rfl
end
end
def zF:Fld:=f0
def zRv:Rv:=⟨⟨0,0,0,0,0,λ_=>f0,0,λ_=>f0⟩,none,0,none,0⟩
theorem cellsFld:Tryz.prog.cellsOf 154=3:=by kernel_rfl
theorem cellsIntF:Tryz.prog.cellsOf 3=1:=by kernel_rfl
theorem cellsI64F:Tryz.prog.cellsOf 2=1:=by kernel_rfl
theorem cellsStrF:Tryz.prog.cellsOf 9=1:=by kernel_rfl
theorem lit_i64 {n:Int} (h:(Lit.int .i64 n).wf=true): -9223372036854775808≤n∧n≤9223372036854775807:=bounds_i64 h
theorem cell_lt {W:World} {b o:Nat} {v:Value} (h:W.cell? ⟨b,o,none⟩=some v):b<W.heap.size:=by
 refine Classical.byContradiction λhn=>?_
 have:W.heap[b]? =none:=Array.getElem?_eq_none (by omega);simp[World.cell?,this] at h
theorem open_fld {H:Type} {enc:TypeId×Value→H} {W:World} {base n:Nat} {sp:Nat→Bool} {hd:Bool} {a:Addr} {cs:List Value} {x:DataW H×List MemPlace} (hc:W.cells? base a 3=some cs) (h:DataW.trod enc Tryz.prog W base sp hd n 154 cs=some x):
  ∃ f:Fld,InR f∧a.spot=none∧a.block<W.heap.size∧W.rangeAt a.block a.off (fv f):=by
 obtain⟨hb,hlen,hcell⟩:=World.cells?_some hc;obtain⟨y0,y1,y2,m,_,_,h0,h1,h2⟩:=trod_struct3 Tryz.underlying154 h
 match cs,hlen with
 |[c0,c1,c2],_=>
  have e0:DataW.trod enc Tryz.prog W base sp hd m 3 [c0]=some y0:=by simpa [cellsIntF] using h0
  have e1:DataW.trod enc Tryz.prog W base sp hd m 2 [c1]=some y1:=by simpa [cellsI64F] using h1
  have e2:DataW.trod enc Tryz.prog W base sp hd m 9 [c2]=some y2:=by simpa [cellsStrF] using h2
  obtain⟨k,k0,_,_⟩:=DataW.trod_int Tryz.underlying3 e0;obtain⟨nn,k1,_,wf⟩:=DataW.trod_int Tryz.underlying2 e1;obtain⟨s,k2,_,_⟩:=DataW.trod_string Tryz.underlying9 e2;obtain rfl:c0= .int .i64 k:=by simpa using k0
  obtain rfl:c1= .int .i64 nn:=by simpa using k1
  obtain rfl:c2= .string s:=by simpa using k2
  obtain⟨b,o,spot⟩:=a;have q0:=hcell 0 (by decide);have q1:=hcell 1 (by decide);have q2:=hcell 2 (by decide);have hspot:spot=none:=by simpa [Addr.add] using World.cell?_spot q0
  subst hspot;refine⟨⟨k,nn,s⟩,lit_i64 wf,rfl,?_,?_⟩
  ·have hq:W.cell? ⟨b,o+0,none⟩=some (.int .i64 k):=q0;exact cell_lt hq
  ·intro j v hv
   match j,hv with
   |0,hv=>exact q0.trans hv
   |1,hv=>exact q1.trans hv
   |2,hv=>exact q2.trans hv
theorem open_flds {H:Type} {enc:TypeId×Value→H} {W:World} {base:Nat} {v:Value} {d:DataW H} {p:List MemPlace} (hval:Value.okWide Tryz.prog W .any base 41 v) (h:DataW.Trod enc Tryz.prog W 0 (λ_=>true) true 41 v d p):
  ∃ (q:Option Addr) (n c:Nat) (G:Nat→Fld),v= .slice q n c∧Rw W q n G∧(∀ j,j<n→InR (G j))∧n≤maxLen∧n≤c:=by
 obtain⟨q,n,c,rfl⟩:∃ A n c,v= .slice A n c:=by
  cases v<;>simp[Value.okWide,Cell.okWide,Cell.ok,Tryz.underlying41] at hval ⊢
 obtain⟨fuel,hf⟩:=h;rcases open_slice Tryz.underlying41 hf with⟨hcs,_⟩ |⟨a,len,cap,m,k,D,Pl,hcs,_,hl,hm,hmm,_,hx⟩
 ·simp[Value.cells] at hcs;obtain⟨rfl,rfl,rfl⟩:=hcs;exact⟨none,0,0,λ_=>zF,rfl,λj hj=>absurd hj (by omega),λj hj=>absurd hj (by omega),Nat.zero_le _,Nat.le_refl _⟩
 ·simp[Value.cells] at hcs;obtain⟨rfl,rfl,rfl⟩:=hcs;have hlm:n≤m:=by rw[hmm];simp;omega
  obtain⟨b,o,spot⟩:=a
  by_cases h0:n=0
  ·subst h0;exact⟨_,0,c,λ_=>zF,rfl,λj hj=>absurd hj (by omega),λj hj=>absurd hj (by omega),by omega,hl⟩
  have hsp:spot=none:=by
   obtain⟨cs',hc,ht⟩:=hx 0 (by omega);rw[cellsFld] at hc;obtain⟨f,_,h2,_⟩:=open_fld hc ht
   simpa [Addr.add] using h2
  subst hsp;have key:∀ i,∃ f:Fld,i<n→(InR f∧b<W.heap.size∧W.rangeAt b (o+i * 3) (fv f)):=λi=>by
   by_cases hi:i<n
   ·obtain⟨cs',hc,ht⟩:=hx i (by omega);rw[cellsFld,add_plain] at hc;obtain⟨f,h1,_,h3,h4⟩:=open_fld hc ht;exact⟨f,λ_=>⟨h1,h3,h4⟩⟩
   ·exact⟨zF,λh=>absurd h hi⟩
  obtain⟨G,hG⟩:=Classical.axiomOfChoice key;exact⟨some ⟨b,o,none⟩,n,c,G,rfl,λj hj=>⟨b,o,rfl,(hG j hj).2.1,(hG j hj).2.2⟩,λj hj=>(hG j hj).1,by omega,hl⟩
theorem cellsRowF:Tryz.prog.cellsOf 41=1:=by kernel_rfl
theorem cellsReq:Tryz.prog.cellsOf 54=6:=by kernel_rfl
theorem open_fldc {H:Type} {enc:TypeId×Value→H} {W:World} {v:Value} {fuel:Nat} {x:DataW H×List MemPlace} (hf:DataW.trod enc Tryz.prog W 0 (λ_=>true) true fuel 41 [v]=some x):
  ∃ (q:Option Addr) (n c:Nat) (G:Nat→Fld),v= .slice q n c∧Rw W q n G∧(∀ j,j<n→InR (G j))∧n≤maxLen:=by
 rcases open_slice Tryz.underlying41 hf with⟨hcs,_⟩ |⟨a,len,cap,m,k,D,Pl,hcs,_,hl,hm,hmm,_,hx⟩
 ·obtain rfl:=List.cons.inj hcs |>.1;exact⟨none,0,0,λ_=>zF,rfl,λj hj=>absurd hj (by omega),λj hj=>absurd hj (by omega),Nat.zero_le _⟩
 ·obtain rfl:=List.cons.inj hcs |>.1;have hlm:len≤m:=by rw[hmm];simp;omega
  obtain⟨b,o,spot⟩:=a
  by_cases h0:len=0
  ·subst h0;exact⟨_,0,cap,λ_=>zF,rfl,λj hj=>absurd hj (by omega),λj hj=>absurd hj (by omega),by omega⟩
  have hsp:spot=none:=by
   obtain⟨cs',hc,ht⟩:=hx 0 (by omega);rw[cellsFld] at hc;obtain⟨f,_,h2,_⟩:=open_fld hc ht
   simpa [Addr.add] using h2
  subst hsp;have key:∀ i,∃ f:Fld,i<len→(InR f∧b<W.heap.size∧W.rangeAt b (o+i * 3) (fv f)):=λi=>by
   by_cases hi:i<len
   ·obtain⟨cs',hc,ht⟩:=hx i (by omega);rw[cellsFld,add_plain] at hc;obtain⟨f,h1,_,h3,h4⟩:=open_fld hc ht;exact⟨f,λ_=>⟨h1,h3,h4⟩⟩
   ·exact⟨zF,λh=>absurd h hi⟩
  obtain⟨G,hG⟩:=Classical.axiomOfChoice key;exact⟨some ⟨b,o,none⟩,len,cap,G,rfl,λj hj=>⟨b,o,rfl,(hG j hj).2.1,(hG j hj).2.2⟩,λj hj=>(hG j hj).1,by omega⟩
end
theorem cellsAsk:Tryz.prog.cellsOf 56=7:=by kernel_rfl
theorem open_reqc {H:Type} {enc:TypeId×Value→H} {W:World} {l:List Value} {fuel:Nat} {y:DataW H×List MemPlace} (hf:DataW.trod enc Tryz.prog W 0 (λ_=>true) true fuel 54 l=some y):
  ∃ x:Rv,l=rv x∧RvW W x∧InRq x.r:=by
 obtain⟨xs,n,_,_,hl,hlen,hff⟩:=DataW.trod_struct Tryz.underlying54 hf;have h0:=hff 0 _ rfl;have h1:=hff 1 _ rfl;have h2:=hff 2 _ rfl;have h3:=hff 3 _ rfl;have h4:=hff 4 _ rfl;have h5:=hff 5 _ rfl;rw[cellsReq] at hl
 match xs,hlen with
 |[x0,x1,x2,x3,x4,x5],_=>
  obtain⟨n0,c0,_,_⟩:=DataW.trod_int Tryz.underlying3 h0;obtain⟨n1,c1,_,_⟩:=DataW.trod_int Tryz.underlying3 h1;obtain⟨n2,c2,_,_⟩:=DataW.trod_int Tryz.underlying3 h2;obtain⟨n5,c5,_,_⟩:=DataW.trod_int Tryz.underlying3 h5;change List.take (Tryz.prog.cellsOf 3) (List.drop 0 l)=_ at c0;change List.take (Tryz.prog.cellsOf 3) (List.drop 1 l)=_ at c1;change List.take (Tryz.prog.cellsOf 3) (List.drop 2 l)=_ at c2;change List.take (Tryz.prog.cellsOf 3) (List.drop 5 l)=_ at c5;change DataW.trod enc Tryz.prog W 0 (λ_=>true) true n 41 (List.take (Tryz.prog.cellsOf 41) (List.drop 3 l))=some x3 at h3;change DataW.trod enc Tryz.prog W 0 (λ_=>true) true n 41 (List.take (Tryz.prog.cellsOf 41) (List.drop 4 l))=some x4 at h4;rw[cellsIntF] at c0 c1 c2 c5;rw[cellsRowF] at h3 h4
  match l,hl with
  |[l0,l1,l2,l3,l4,l5],_=>
   simp at c0 c1 c2 c5;obtain⟨q,k,c,G,rfl,r1,i1,m1⟩:=open_fldc (v:=l3) h3;obtain⟨q',k',c',G',rfl,r2,i2,m2⟩:=open_fldc (v:=l4) h4;subst c0;subst c1;subst c2;subst c5;exact⟨⟨⟨n0,n1,n2,n5,k,G,k',G'⟩,q,c,q',c'⟩,rfl,⟨r1,r2,by show k≤_;unfold maxLen at m1;omega,by show k'≤_;unfold maxLen at m2;omega⟩,⟨i1,i2⟩⟩
theorem open_askc {H:Type} {enc:TypeId×Value→H} {W:World} {l:List Value} {fuel:Nat} {y:DataW H×List MemPlace} (hf:DataW.trod enc Tryz.prog W 0 (λ_=>true) true fuel 56 l=some y):
  ∃ x:Av,l=al x∧RvW W x.r∧InRq x.r.r:=by
 obtain⟨y0,y1,n,_,hl,h0,h1⟩:=trod_struct2 Tryz.underlying56 hf;rw[cellsAsk] at hl;change DataW.trod enc Tryz.prog W 0 (λ_=>true) true n 54 (List.take (Tryz.prog.cellsOf 54) (List.drop 0 l))=some y0 at h0;change DataW.trod enc Tryz.prog W 0 (λ_=>true) true n 3 (List.take (Tryz.prog.cellsOf 3) (List.drop 6 l))=some y1 at h1;rw[cellsReq] at h0;rw[cellsIntF] at h1;obtain⟨r,hr,rw_,ir⟩:=open_reqc h0;obtain⟨d,hd,_,_⟩:=DataW.trod_int Tryz.underlying3 h1;refine⟨⟨r,d⟩,?_,rw_,ir⟩;unfold al;rw[←hr,←hd,List.drop_zero];have:=List.take_append_drop 6 l;rw[List.take_of_length_le (l:=List.drop 6 l) (by rw[List.length_drop];omega)];exact this.symm
theorem open_asksI {H:Type} {enc:TypeId×Value→H} {W:World} {base:Nat} {v:Value} {d:DataW H} {p:List MemPlace} (hval:Value.okWide Tryz.prog W .any base 49 v) (h:DataW.Trod enc Tryz.prog W 0 (λ_=>true) true 49 v d p):
  ∃ (A:Option Addr) (n c:Nat) (F:Nat→Av),v= .slice A n c∧n≤c∧c≤maxLen∧AW W A n F∧∀ j,j<n→InRq (F j).r.r:=by
 obtain⟨q,n,c,rfl⟩:∃ A n c,v= .slice A n c:=by
  cases v<;>simp[Value.okWide,Cell.okWide,Cell.ok,Tryz.underlying49] at hval ⊢
 obtain⟨fuel,hf⟩:=h;rcases open_slice Tryz.underlying49 hf with⟨hcs,_⟩ |⟨a,len,cap,m,k,D,Pl,hcs,_,hl,hm,hmm,_,hx⟩
 ·simp[Value.cells] at hcs;obtain⟨rfl,rfl,rfl⟩:=hcs;exact⟨none,0,0,λ_=>⟨zRv,0⟩,rfl,Nat.le_refl _,Nat.zero_le _,⟨λj hj=>absurd hj (by omega),λj hj=>absurd hj (by omega)⟩,λj hj=>absurd hj (by omega)⟩
 ·simp[Value.cells] at hcs;obtain⟨rfl,rfl,rfl⟩:=hcs;have hlm:n≤m:=by rw[hmm];simp;omega
  obtain⟨b,o,spot⟩:=a;have opn:∀ i,i<n→∃ x:Av,(⟨b,o,spot⟩:Addr).spot=none∧RvW W x.r∧InRq x.r.r∧∀ j v,(al x)[j]? =some v→W.cell? ((⟨b,o,spot⟩:Addr).add (i * 7+j))=some v:=λi hi=>by
   obtain⟨cs',hc,ht⟩:=hx i (by omega);rw[cellsAsk] at hc;obtain⟨x,rfl,h1,h9⟩:=open_askc ht;obtain⟨_,_,hcell⟩:=World.cells?_some hc;have hs:=World.cell?_spot (hcell 0 (by decide));have hsp:spot=none:=by
    have:i=0∨0<i:=by omega
    obtain⟨cs0,hc0,ht0⟩:=hx 0 (by omega);rw[cellsAsk] at hc0;obtain⟨x0,rfl,_,_⟩:=open_askc ht0;have hs0:=World.cell?_spot ((World.cells?_some hc0).2.2 0 (by decide))
    simpa [Addr.add] using hs0
   refine⟨x,hsp,h1,h9,λj v hv=>?_⟩;have hj:j<7:=by have:=(List.getElem?_eq_some_iff.1 hv).1;simpa [al,rv] using this
   have:=hcell j hj;subst hsp;rw[show(⟨b,o,none⟩:Addr).add (i * 7+j)=((⟨b,o,none⟩:Addr).add (i * 7)).add j by
    rw[show ∀ (c:Nat),(⟨b,o,none⟩:Addr).add c=⟨b,o+c,none⟩ from λc=>by unfold Addr.add;split<;>simp_all,show ∀ (o c:Nat),(⟨b,o,none⟩:Addr).add c=⟨b,o+c,none⟩ from λo c=>by unfold Addr.add;split<;>simp_all,show ∀ (o c:Nat),(⟨b,o,none⟩:Addr).add c=⟨b,o+c,none⟩ from λo c=>by unfold Addr.add;split<;>simp_all,Nat.add_assoc]]
   rw[this];exact hv
  have key:∀ i,∃ x:Av,i<n→(⟨b,o,spot⟩:Addr).spot=none∧RvW W x.r∧InRq x.r.r∧∀ j v,(al x)[j]? =some v→W.cell? ((⟨b,o,spot⟩:Addr).add (i * 7+j))=some v:=λi=>by
   by_cases hi:i<n
   ·obtain⟨x,hx⟩:=opn i hi;exact⟨x,λ_=>hx⟩
   ·exact⟨⟨zRv,0⟩,λh=>absurd h hi⟩
  obtain⟨F,hF⟩:=Classical.axiomOfChoice key;refine⟨some ⟨b,o,spot⟩,n,c,F,rfl,hl,hm,⟨λj hj=>?_,λj hj=>(hF j hj).2.1⟩,λj hj=>(hF j hj).2.2.1⟩;obtain⟨e,_,_,h2⟩:=hF j hj;obtain rfl:spot=none:=e;have e2:∀ (c:Nat),(⟨b,o,none⟩:Addr).add c=⟨b,o+c,none⟩:=λc=>by unfold Addr.add;split<;>simp_all
  refine⟨b,o,rfl,?_,λi v hv=>?_⟩
  ·have:=h2 0 _ rfl;rw[e2] at this;exact World.block_lt_of_cell? W _ this
  ·have:=h2 i v hv;rw[e2] at this;rw[Nat.add_assoc];exact this
end Go.Proofs.YtlipjglehongeaaGreatDoor
namespace Go.Proofs.YtlipjglehongeaaGreatDoor
open Go.ChangeShapes Go.WideShapes Go.ChangeAt Go.RowKit Sh
section
section
theorem own:ownKnob Tryz.prog.godebug=none:=by kernel_rfl
theorem gTab:Tryz.prog.globalNamed "chirograph/sha.rounds" =some 1:=by kernel_rfl
theorem gTabType:(Tryz.prog.globals[1]?).map (·.type)=some 190:=by kernel_rfl
theorem cells51:Tryz.prog.cellsOf 190=64:=by kernel_rfl
theorem cells41:Tryz.prog.cellsOf 149=1:=by kernel_rfl
theorem kat_of {W:World} (h:laidMetH Tryz.prog [("chirograph/sha.rounds",Rows.laid_chirograph_sha_rounds)] W):KAt W:=by
 have ht:Lib.TabIs Tryz.prog W "chirograph/sha.rounds" .u32 (ks.map λ(n:Nat)=>(n:Int)):=
  Lib.tabIs_of_head (rest:=[]) gTab gTabType Tryz.underlying190 Tryz.underlying149 cells41 cells51 h
 have hc:∀ j,j<64→W.cell? ⟨1,j,none⟩=some (.int .u32 ((gt ks j:Nat):Int)):=λj hj=>by
  have hl:j<ks.length:=hj;rw[ht.cell gTab j (by rw[List.length_map];exact hl)]
  congr 2
  simp[gt,List.getD_eq_getElem?_getD,List.getElem?_eq_getElem hl]
 exact⟨World.block_lt_of_cell? W _ (hc 0 (by decide)),hc⟩
section
variable {H : Type} {enc : TypeId × Value → H}
end
end
noncomputable def laidWorld (os:Os):World:=
 { World.holding Tryz.prog os ⟨#[], #[],[]⟩ with heap:=(World.holding Tryz.prog os ⟨#[], #[],[]⟩).heap.modify 1 fun
   | .cells _ t frozen=> .cells (u32s ks).toArray t frozen
   |o=>o }
end
theorem gKin:Tryz.prog.globalNamed "chirograph/ots.kinds" =some 2:=by kernel_rfl
theorem gKinType:(Tryz.prog.globals[2]?).map (·.type)=some 246:=by kernel_rfl
theorem cellsKin:Tryz.prog.cellsOf 245=4:=by kernel_rfl
theorem cellsKins:Tryz.prog.cellsOf 246=16:=by kernel_rfl
theorem cellsU64:Tryz.prog.cellsOf 89=1:=by kernel_rfl
theorem cellsInt:Tryz.prog.cellsOf 3=1:=by kernel_rfl
theorem kind_cells {H:Type} {enc:TypeId×Value→H} {W:World} {base:Nat} {sp:Nat→Bool} {held:Bool} {fuel:Nat} {l:List Value} {a b c d:Int} {p:List MemPlace}
  (h:DataW.trod enc Tryz.prog W base sp held fuel 245 l=some (.agg [.lit (.int .u64 a),.lit (.int .i64 b),.lit (.int .i64 c),.lit (.int .i64 d)],p)):l=[.int .u64 a,.int .i64 b,.int .i64 c,.int .i64 d]:=by
 obtain⟨xs,n,_,hx,hl,hlen,hf⟩:=DataW.trod_struct Tryz.underlying245 h;rw[cellsKin] at hl;have h0:=hf 0 _ rfl;have h1:=hf 1 _ rfl;have h2:=hf 2 _ rfl;have h3:=hf 3 _ rfl
 match xs,hlen with
 |[x0,x1,x2,x3],_=>
  injection hx with hx1 _
  injection hx1 with hx1
  simp only[List.map_cons,List.map_nil,List.cons.injEq,and_true] at hx1;obtain⟨e0,e1,e2,e3⟩:=hx1;obtain⟨n0,c0,y0,_⟩:=DataW.trod_int Tryz.underlying89 h0;obtain⟨n1,c1,y1,_⟩:=DataW.trod_int Tryz.underlying3 h1;obtain⟨n2,c2,y2,_⟩:=DataW.trod_int Tryz.underlying3 h2;obtain⟨n3,c3,y3,_⟩:=DataW.trod_int Tryz.underlying3 h3;rw[y0] at e0;rw[y1] at e1;rw[y2] at e2;rw[y3] at e3
  injection e0 with e0;injection e0 with _ e0
  injection e1 with e1;injection e1 with _ e1
  injection e2 with e2;injection e2 with _ e2
  injection e3 with e3;injection e3 with _ e3
  subst e0;subst e1;subst e2;subst e3;change List.take (Tryz.prog.cellsOf 89) (List.drop 0 l)=_ at c0;change List.take (Tryz.prog.cellsOf 3) (List.drop 1 l)=_ at c1;change List.take (Tryz.prog.cellsOf 3) (List.drop 2 l)=_ at c2;change List.take (Tryz.prog.cellsOf 3) (List.drop 3 l)=_ at c3;rw[cellsU64] at c0;rw[cellsInt] at c1 c2 c3
  match l,hl with
  |[l0,l1,l2,l3],_=>
   simp at c0 c1 c2 c3;rw[c0,c1,c2,c3]
theorem ki_of {W:World} (h:laidMetH Tryz.prog [("chirograph/sha.rounds",Rows.laid_chirograph_sha_rounds),("chirograph/ots.kinds",Rows.laid_chirograph_ots_kinds)] W):KI W:=by
 have h1:=h.filter (λx=>x.1 == "chirograph/ots.kinds");have h2:laidMet Tryz.prog [("chirograph/ots.kinds",Rows.laid_chirograph_ots_kinds)] W:=h1;obtain⟨ps,⟨g',t',cs,fuel,p,q,hg',ht',hvar,hd,_,_⟩,_⟩:=h2;obtain rfl:=Option.some.inj (gKin.symm.trans hg');obtain rfl:=Option.some.inj (gKinType.symm.trans ht');obtain⟨xs,m,_,hx,hl,hxl,hel⟩:=DataW.trod_array Tryz.underlying246 hd;rw[cellsKins] at hl;have e0:=hel 0 (by decide);have e1:=hel 1 (by decide);have e2:=hel 2 (by decide);have e3:=hel 3 (by decide);rw[cellsKin] at e0 e1 e2 e3
 match xs,hxl with
 |[x0,x1,x2,x3],_=>
  injection hx with hx1 _
  unfold Rows.laid_chirograph_ots_kinds at hx1
  injection hx1 with hx1
  simp only[List.map_cons,List.map_nil,List.cons.injEq,and_true] at hx1;obtain⟨y0,y1,y2,y3⟩:=hx1;have k0:=kind_cells (p:=x0.2) (e0.trans (by rw[y0];rfl));have k1:=kind_cells (p:=x1.2) (e1.trans (by rw[y1];rfl));have k2:=kind_cells (p:=x2.2) (e2.trans (by rw[y2];rfl));have k3:=kind_cells (p:=x3.2) (e3.trans (by rw[y3];rfl));have hcs:cs.toList=kds:=by
   generalize cs.toList=l at *
   have:l=(l.drop 0).take 4++((l.drop 4).take 4++((l.drop 8).take 4++(l.drop 12).take 4)):=by
    match l,hl with
    |[a0,a1,a2,a3,a4,a5,a6,a7,a8,a9,a10,a11,a12,a13,a14,a15],_=>rfl
   rw[this,show(l.drop 0).take 4=_ from k0,show(l.drop 4).take 4=_ from k1,show(l.drop 8).take 4=_ from k2,show(l.drop 12).take 4=_ from k3];rfl
  have hc:∀ j v,kds[j]? =some v→W.cell? ⟨2,0+j,none⟩=some v:=λj v hv=>by
   rw[Nat.zero_add];have:=World.var?_cell gKin hvar j;rw[this,←hv,←hcs];simp
  exact⟨World.block_lt_of_cell? W _ (hc 0 _ rfl),hc⟩
theorem kat_of2 {W:World} (h:laidMetH Tryz.prog [("chirograph/sha.rounds",Rows.laid_chirograph_sha_rounds),("chirograph/ots.kinds",Rows.laid_chirograph_ots_kinds)] W):KAt W:=
 kat_of (h.filter (λx=>x.1 == "chirograph/sha.rounds"))
noncomputable def laidWorld2 (os:Os):World:=
 { laidWorld os with heap:=(laidWorld os).heap.modify 2 fun
   | .cells _ t frozen=> .cells kds.toArray t frozen
   |o=>o }
end Go.Proofs.YtlipjglehongeaaGreatDoor
namespace Go.Proofs.YtlipjglehongeaaGreatDoor.genesisBack
open Go.ChangeShapes Go.WideShapes Go.ChangeAt Go.RowKit Go.Deep Sh
theorem contract (H:Type) (enc:TypeId×Value→H) (W:World) (base:Nat) (args:Array Value) (ds gs:List (DataW H)) (before:List MemPlace)
  (hval:∀ (j:Nat) t v,Tryz.f4.params[j]? =some t→args[j]? =some v→Value.okWide Tryz.prog W .any base t v)
  (hW:DataW.Whole enc Tryz.prog Tryz.f4.params.toList Rows.genesisBackSpec.vars false W args.toList ds gs before) (hL:laidMetH Tryz.prog Rows.genesisBackRow.laid W):
  Calls Tryz.prog 4 args W λe W'=>∃ v,e= .returned v∧Rows.genesisBackSpec.post enc Tryz.prog Tryz.f4 false true false false W args v W':=by
 have hW':=hW;obtain⟨p,q,hA0,hV,rfl,hfz,hnd⟩:=hW;have hA:DataW.TrodAll enc Tryz.prog W 0 (λ_=>true) true Tryz.f4.params.toList args.toList ds p:=hA0;rw[Tryz.params4] at hA hval;obtain⟨v0,vs0,d0,ds0,p0,q0,ea0,rfl,rfl,h0,hA0⟩:=trodAll_cons hA;obtain⟨v1,vs1,d1,ds1,p1,q1,ea1,rfl,rfl,h1,hA1⟩:=trodAll_cons hA0;obtain⟨v2,vs2,d2,ds2,p2,q2,ea2,rfl,rfl,h2,hA2⟩:=trodAll_cons hA1;obtain⟨v3,vs3,d3,ds3,p3,q3,ea3,rfl,rfl,h3,hA3⟩:=trodAll_cons hA2;obtain⟨v4,vs4,d4,ds4,p4,q4,ea4,rfl,rfl,h4,hA4⟩:=trodAll_cons hA3;obtain⟨hn,rfl,rfl⟩:=trodAll_nil hA4;obtain rfl:args= #[v0,v1,v2,v3,v4]:=by
  rw[←Array.toList_inj,ea0,ea1,ea2,ea3,ea4,hn]
 obtain⟨rfl,rfl⟩:=trodVars_none hV;obtain⟨n0,rfl,rfl,rfl,wn0⟩:=open_int Tryz.underlying3 (hval 0 3 v0 rfl rfl) h0;obtain⟨n1,rfl,rfl,rfl,wn1⟩:=open_int Tryz.underlying3 (hval 1 3 v1 rfl rfl) h1;obtain⟨n2,rfl,rfl,rfl,wn2⟩:=open_int Tryz.underlying3 (hval 2 3 v2 rfl rfl) h2;obtain⟨A3,n3,c3,F3,rfl,hnc3,hc3,hr3,hq3⟩:=open_asksI (hval 3 49 v3 rfl rfl) h3;have hm3:n3≤9223372036854775807:=by unfold maxLen at hc3;omega
 obtain⟨n4,rfl,rfl,rfl,wn4⟩:=open_int Tryz.underlying3 (hval 4 3 v4 rfl rfl) h4;refine(gback_t n0 n1 n2 n4 A3 n3 c3 F3 W hm3 hr3 hq3 (ki_of hL) (kat_of2 hL)).mono λe W' ⟨he,hbl⟩=>?_
 subst he;exact⟨_,rfl,law_postG hW' (by kernel_rfl) rfl rfl (λt ht=>by
  rw[Tryz.params4] at ht;have hall:([3,3,3,49,3]:List Nat).all (λu=>Tryz.prog.readableRec u && decide (u<Tryz.prog.types.size))=true:=by kernel_rfl
  have h:=List.all_eq_true.1 hall t (by simpa using ht)
  simpa using h) hbl⟩
theorem laid_met (os:Os):laidMet Tryz.prog Rows.genesisBackRow.laid ((laidWorld2 os).forCall (λ_ _=>0) ⟨#[], #[.int .i64 0,.int .i64 0,.int .i64 0,.slice none 0 0,.int .i64 0],[]⟩).memory:=
 laidMet_of_run' 8 (by kernel_rfl) (by kernel_rfl)
theorem reads (os:Os) {H:Type} (enc:TypeId×Value→H):∃ places,DataW.whole enc Tryz.prog ((laidWorld2 os).forCall (λ_ _=>0) ⟨#[], #[.int .i64 0,.int .i64 0,.int .i64 0,.slice none 0 0,.int .i64 0],[]⟩).memory Tryz.f4.params.toList Rows.genesisBackSpec.vars false (#[.int .i64 0,.int .i64 0,.int .i64 0,.slice none 0 0,.int .i64 0]:Array Value).toList 8=some ([.lit (.int .i64 0),.lit (.int .i64 0),.lit (.int .i64 0),.nil,.lit (.int .i64 0)],[],places):=
 ⟨[],by kernel_rfl⟩
theorem lifted (os:Os) (started:os.Started) (H:Type) (enc:TypeId×Value→H) (F:Stop.Interp):
  ReturnsInHanded {} Tryz.checked os 4 .any ((OpenSpec.ofChange Rows.genesisBackSpec).preRow enc Tryz.prog Tryz.f4 Rows.genesisBackRow.domain false Rows.genesisBackRow.laid) (((OpenSpec.ofChange Rows.genesisBackSpec).at F).post enc Tryz.prog Tryz.f4 false true false false):=by
 obtain⟨places,hx⟩:=reads os enc;refine returnsInHanded_of_row (C:=Tryz.checked) (s:=OpenSpec.ofChange Rows.genesisBackSpec) ownG started (by kernel_rfl) Tryz.func4
  (witness_row_at (enc:=enc) (C:=Tryz.checked) false (laidWorld2 os) #[.int .i64 0,.int .i64 0,.int .i64 0,.slice none 0 0,.int .i64 0] rfl (by kernel_rfl) (by kernel_rfl) (by kernel_rfl)
   (OpenSpec.preRow_of_cond 8 hx (by kernel_rfl) (λk hk=>by cases hk) (by kernel_rfl) (laid_met os))) ?_
 intro W base args ds gs before hval hW _ _ _ hL _ _;exact contract H enc W base args ds gs before hval hW hL
theorem said:Rows.GenesisBackSaid:=
 OpenClaim.holds_of_cond 4 Tryz.f4 rfl rfl rfl rfl rfl rfl rfl ⟨rfl,rfl,rfl,rfl,rfl⟩ rfl rfl rfl rfl rfl (by kernel_rfl) Tryz.func4 (by kernel_rfl)
  (of_decide_eq_true (by kernel_rfl)) (by unfold Func.isWrapper;first |(rw[if_pos (by decide+kernel)];kernel_rfl) |(rw[if_neg (by decide+kernel)];exact⟨rfl,rfl⟩))
  (λos started H enc _ F=>by rw[OpenClaim.pre_eq_preRow];exact lifted os started H enc F)
theorem plain (f:FuncId) (fn:Func) (hf:Tryz.pinned.checked.prog.funcNamed "chirograph/chirographlaw10.GenesisBack" =some f) (hfn:Tryz.pinned.checked.prog.funcs[f]? =some fn):
  false=Tryz.pinned.checked.prog.looks []∧∀ (j:Nat) t,fn.params[j]? =some t→Tryz.pinned.checked.prog.wantsStandIn t=false:=by
 obtain rfl:f=4:=Option.some.inj ((show Tryz.prog.funcNamed "chirograph/chirographlaw10.GenesisBack" =some 4 by kernel_rfl).symm.trans hf) |>.symm;obtain rfl:fn=Tryz.f4:=(Option.some.inj (Tryz.func4.symm.trans hfn)).symm;refine⟨by kernel_rfl,λj t ht=>?_⟩;rw[Tryz.params4] at ht;have hm:t∈[3,3,3,49,3]:=by simpa using Array.mem_of_getElem? ht
 have hall:(([3,3,3,49,3]:List Nat).all λu=> !Tryz.prog.wantsStandIn u)=true:=by kernel_rfl
 exact(show Tryz.prog.wantsStandIn t=false by simpa using List.all_eq_true.1 hall t hm)
theorem card:Rows.GenesisBackCardSaid:=
 Claim7.holds_tied_plain_at .later [] _ _ _ _ said (λ_ h=>by cases h) (by kernel_rfl) (λ_ h=>by cases h) genesisBack_row_tie rfl ⟨rfl,rfl⟩ (by kernel_rfl) rfl plain (by kernel_rfl)
end Go.Proofs.YtlipjglehongeaaGreatDoor.genesisBack
