/-
  THE CARD OF VoteChecks: a vote of any seed, place, link hash, replica, turned as the law turns it: both Checks answer alike, in every world in which the tables of the packages sha and ots hold what their texts say, the law answers true, and its arguments read as they did. (Condition: the tables 'chirograph/sha.rounds' and 'chirograph/ots.kinds' are laid as the program's text lays them; the card ties that to the text.)
-/
import Derived.Test.YtjlophplcmidlaaGreatDoorAd1
import Derived.Test.YtjlophplcmidlaaGreatDoorCards
import Derived.Test.YtjlophplcmidlaaGreatDoorTie
import Derived.WalkKit
import Derived.ProofKit
import Derived.OpenShut
import Derived.Carry
import Derived.Deep.DeepHandedRow
import Derived.Lib.LaidTab
import Derived.Test.YtjlophplcmidlaaGreatDoorRows
import Derived.JoinedCond
import Derived.Deep.Matrix
import Derived.Test.YtjlophplcmidlaaGreatDoorAd7
import Derived.LaidSub
import Derived.Test.YtjlophplcmidlaaGreatDoorAd46
set_option maxRecDepth 100000
namespace Go.Proofs.YtjlophplcmidlaaGreatDoor
open Go.ChangeShapes Go.WideShapes Go.ChangeAt Go.RowKit Sh
section
theorem own:ownKnob Tryz.prog.godebug=none:=by kernel_rfl
theorem laidOut:laidOutB Tryz.prog=true:=by kernel_rfl
theorem gTab:Tryz.prog.globalNamed "chirograph/sha.rounds" =some 1:=by kernel_rfl
theorem gTabType:(Tryz.prog.globals[1]?).map (·.type)=some 139:=by kernel_rfl
theorem cells51:Tryz.prog.cellsOf 139=64:=by kernel_rfl
theorem cells41:Tryz.prog.cellsOf 109=1:=by kernel_rfl
theorem cells5:Tryz.prog.cellsOf 5=1:=by kernel_rfl
theorem cells25:Tryz.prog.cellsOf 23=32:=by kernel_rfl
theorem kat_of {W:World} (h:laidMetH Tryz.prog [("chirograph/sha.rounds",Rows.laid_chirograph_sha_rounds)] W):KAt W:=by
 have ht:Lib.TabIs Tryz.prog W "chirograph/sha.rounds" .u32 (ks.map λ(n:Nat)=>(n:Int)):=
  Lib.tabIs_of_head (rest:=[]) gTab gTabType Tryz.underlying139 Tryz.underlying109 cells41 cells51 h
 have hc:∀ j,j<64→W.cell? ⟨1,j,none⟩=some (.int .u32 ((gt ks j:Nat):Int)):=λj hj=>by
  have hl:j<ks.length:=hj;rw[ht.cell gTab j (by rw[List.length_map];exact hl)]
  congr 2
  simp[gt,List.getD_eq_getElem?_getD,List.getElem?_eq_getElem hl]
 exact⟨World.block_lt_of_cell? W _ (hc 0 (by decide)),hc⟩
section
variable {H : Type} {enc : TypeId × Value → H}
theorem stay:∀ (ts:List TypeId) (vs:List Value) (ds:List (DataW H)) (ps:List MemPlace) (W W':World),(∀ t∈ts,Tryz.prog.readableRec t=true∧t<Tryz.prog.types.size)→Below W.heap.size W W'→(∀ x∈ps,x.block<W.heap.size)→
  DataW.TrodAll enc Tryz.prog W 0 (λ_=>true) true ts vs ds ps→DataW.TrodAll enc Tryz.prog W' 0 (λb=>decide (b<W.heap.size)) true ts vs ds ps
 |[],vs,ds,ps,W,W',_,_,_,h=>by
  obtain⟨rfl,rfl,rfl⟩:=trodAll_nil h;exact trodAll_mk0
 |t::ts,vs,ds,ps,W,W',hr,hb,hlt,h=>by
  obtain⟨v,vs,d,ds,p,q,rfl,rfl,rfl,h1,h2⟩:=trodAll_cons h;exact trodAll_cons_mk (Below.trod laidOut (hr t (List.mem_cons_self)).1 (hr t (List.mem_cons_self)).2 h1 hb (λx hx=>hlt x (List.mem_append_left _ hx)))
   (stay ts vs ds q W W' (λu hu=>hr u (List.mem_cons_of_mem _ hu)) hb (λx hx=>hlt x (List.mem_append_right _ hx)) h2)
theorem law_post {f:Func} {s:ChangeSpec} {W W':World} {args:Array Value} {ds gs:List (DataW H)} {before:List MemPlace} (hW:DataW.Whole enc Tryz.prog f.params.toList s.vars false W args.toList ds gs before)
  (hr:f.resultTypes= #[4]) (hv:s.vars=[]) (hfn:s.fn H (ds++gs)= { results:=[.lit (.bool true)],args:=ds }) (hp:∀ t∈f.params.toList,Tryz.prog.readableRec t=true∧t<Tryz.prog.types.size) (hb:Below W.heap.size W W'):
  s.post enc Tryz.prog f false true false false W args (.bool true) W':=by
 have hlt:=hW.lt;obtain⟨p,q,hA,hV,hpq,hz,hnd⟩:=id hW;rw[hv] at hV;obtain⟨rfl,rfl⟩:=trodVars_none hV;rw[List.append_nil] at hpq;subst hpq;refine⟨ds,[],before,[],before,[],hW,?_,?_,?_,World.keptBut_mono (λx hx=>⟨hx,Or.inr (Or.inl hx)⟩) (hb.frame (· ∈before)),λh=>by cases h⟩
 ·rw[hfn,hr];exact trodAll_mk1 (shut_bool Tryz.underlying4 _)
 ·rw[hfn];exact stay _ _ _ _ W W' hp hb hlt hA
 ·rw[hfn,hv];rfl
theorem open_hash {W:World} {base:Nat} {v:Value} {d:DataW H} {p:List MemPlace} (hval:Value.okWide Tryz.prog W .any base 23 v) (h:DataW.Trod enc Tryz.prog W 0 (λ_=>true) true 23 v d p):
  ∃ l:List Nat,l.length=32∧Bytes l∧v= .agg (u8s l).toArray:=by
 obtain⟨cs,rfl,hsz,_⟩:∃ cs,v= .agg cs∧cs.size=Tryz.prog.cellsOf 23∧Row.okWide Tryz.prog W .any base 23 cs:=by
  simpa [Value.okWide,Tryz.underlying23] using hval
 rw[cells25] at hsz;obtain⟨fuel,hf⟩:=h;obtain⟨xs,m,_,_,_,hxl,hel⟩:=DataW.trod_array Tryz.underlying23 hf;have each:∀ i,i<32→∃ n:Nat,n<256∧cs.toList[i]? =some (.int .u8 (n:Int)):=λi hi=>by
  have h1:=hel i hi;rw[cells5,Nat.mul_one,List.getElem?_eq_getElem (by omega)] at h1;obtain⟨n,e1,_,wf⟩:=DataW.trod_int Tryz.underlying5 h1;have hb:=bounds_u8 wf;refine⟨n.toNat,by omega,?_⟩;have h2:(cs.toList.drop i)[0]? =some (.int .u8 n):=by
   have:=congrArg (λl=>l[0]?) e1
   simpa [Value.cells] using this
  rw[List.getElem?_drop,Nat.add_zero] at h2;rw[h2,Int.toNat_of_nonneg hb.1]
 have hlen:cs.toList.length=32:=by simpa using hsz
 refine⟨cs.toList.map λv=>match v with | .int _ n=>n.toNat |_=>0,by simpa using hsz,?_,?_⟩
 ·intro i;rcases Nat.lt_or_ge i 32 with hi |hi
  ·obtain⟨n,hn,e⟩:=each i hi;simp[gt,List.getD_eq_getElem?_getD,e];omega
  ·rw[gt_out (by simpa using by omega)];decide
 ·congr 1
  have e:cs.toList=u8s (cs.toList.map λv=>match v with | .int _ n=>n.toNat |_=>0):=by
   apply List.ext_getElem?;intro i;rcases Nat.lt_or_ge i 32 with hi |hi
   ·obtain⟨n,hn,e⟩:=each i hi;simp[u8s,e]
   ·rw[List.getElem?_eq_none (by omega),List.getElem?_eq_none (by simp[u8s];omega)]
  rw[←e]
end
end
noncomputable def laidWorld (os:Os):World:=
 { World.holding Tryz.prog os ⟨#[], #[],[]⟩ with heap:=(World.holding Tryz.prog os ⟨#[], #[],[]⟩).heap.modify 1 fun
   | .cells _ t frozen=> .cells (u32s ks).toArray t frozen
   |o=>o }
end Go.Proofs.YtjlophplcmidlaaGreatDoor
namespace Go.Proofs.YtjlophplcmidlaaGreatDoor
open Go.ChangeShapes Go.WideShapes Go.ChangeAt Go.RowKit Go.Deep Sh
section
variable {H : Type} {enc : TypeId × Value → H}
end
end Go.Proofs.YtjlophplcmidlaaGreatDoor
namespace Go.Proofs.YtjlophplcmidlaaGreatDoor
open Go.ChangeShapes Go.WideShapes Go.ChangeAt Go.RowKit Sh
theorem gKin:Tryz.prog.globalNamed "chirograph/ots.kinds" =some 0:=by kernel_rfl
theorem gKinType:(Tryz.prog.globals[0]?).map (·.type)=some 183:=by kernel_rfl
theorem cellsKin:Tryz.prog.cellsOf 156=4:=by kernel_rfl
theorem cellsKins:Tryz.prog.cellsOf 183=16:=by kernel_rfl
theorem cellsU64:Tryz.prog.cellsOf 69=1:=by kernel_rfl
theorem cellsInt:Tryz.prog.cellsOf 3=1:=by kernel_rfl
theorem kind_cells {H:Type} {enc:TypeId×Value→H} {W:World} {base:Nat} {sp:Nat→Bool} {held:Bool} {fuel:Nat} {l:List Value} {a b c d:Int} {p:List MemPlace}
  (h:DataW.trod enc Tryz.prog W base sp held fuel 156 l=some (.agg [.lit (.int .u64 a),.lit (.int .i64 b),.lit (.int .i64 c),.lit (.int .i64 d)],p)):l=[.int .u64 a,.int .i64 b,.int .i64 c,.int .i64 d]:=by
 obtain⟨xs,n,_,hx,hl,hlen,hf⟩:=DataW.trod_struct Tryz.underlying156 h;rw[cellsKin] at hl;have h0:=hf 0 _ rfl;have h1:=hf 1 _ rfl;have h2:=hf 2 _ rfl;have h3:=hf 3 _ rfl
 match xs,hlen with
 |[x0,x1,x2,x3],_=>
  injection hx with hx1 _
  injection hx1 with hx1
  simp only[List.map_cons,List.map_nil,List.cons.injEq,and_true] at hx1;obtain⟨e0,e1,e2,e3⟩:=hx1;obtain⟨n0,c0,y0,_⟩:=DataW.trod_int Tryz.underlying69 h0;obtain⟨n1,c1,y1,_⟩:=DataW.trod_int Tryz.underlying3 h1;obtain⟨n2,c2,y2,_⟩:=DataW.trod_int Tryz.underlying3 h2;obtain⟨n3,c3,y3,_⟩:=DataW.trod_int Tryz.underlying3 h3;rw[y0] at e0;rw[y1] at e1;rw[y2] at e2;rw[y3] at e3
  injection e0 with e0;injection e0 with _ e0
  injection e1 with e1;injection e1 with _ e1
  injection e2 with e2;injection e2 with _ e2
  injection e3 with e3;injection e3 with _ e3
  subst e0;subst e1;subst e2;subst e3;change List.take (Tryz.prog.cellsOf 69) (List.drop 0 l)=_ at c0;change List.take (Tryz.prog.cellsOf 3) (List.drop 1 l)=_ at c1;change List.take (Tryz.prog.cellsOf 3) (List.drop 2 l)=_ at c2;change List.take (Tryz.prog.cellsOf 3) (List.drop 3 l)=_ at c3;rw[cellsU64] at c0;rw[cellsInt] at c1 c2 c3
  match l,hl with
  |[l0,l1,l2,l3],_=>
   simp at c0 c1 c2 c3;rw[c0,c1,c2,c3]
theorem ki_of {W:World} (h:laidMetH Tryz.prog [("chirograph/sha.rounds",Rows.laid_chirograph_sha_rounds),("chirograph/ots.kinds",Rows.laid_chirograph_ots_kinds)] W):KI W:=by
 have h1:=h.filter (λx=>x.1 == "chirograph/ots.kinds");have h2:laidMet Tryz.prog [("chirograph/ots.kinds",Rows.laid_chirograph_ots_kinds)] W:=h1;obtain⟨ps,⟨g',t',cs,fuel,p,q,hg',ht',hvar,hd,_,_⟩,_⟩:=h2;obtain rfl:=Option.some.inj (gKin.symm.trans hg');obtain rfl:=Option.some.inj (gKinType.symm.trans ht');obtain⟨xs,m,_,hx,hl,hxl,hel⟩:=DataW.trod_array Tryz.underlying183 hd;rw[cellsKins] at hl;have e0:=hel 0 (by decide);have e1:=hel 1 (by decide);have e2:=hel 2 (by decide);have e3:=hel 3 (by decide);rw[cellsKin] at e0 e1 e2 e3
 match xs,hxl with
 |[x0,x1,x2,x3],_=>
  injection hx with hx1 _
  unfold Rows.laid_chirograph_ots_kinds at hx1
  injection hx1 with hx1
  simp only[List.map_cons,List.map_nil,List.cons.injEq,and_true] at hx1;obtain⟨y0,y1,y2,y3⟩:=hx1;have k0:=kind_cells (p:=x0.2) (e0.trans (by rw[y0];rfl));have k1:=kind_cells (p:=x1.2) (e1.trans (by rw[y1];rfl));have k2:=kind_cells (p:=x2.2) (e2.trans (by rw[y2];rfl));have k3:=kind_cells (p:=x3.2) (e3.trans (by rw[y3];rfl));have hcs:cs.toList=kds:=by
   generalize cs.toList=l at *
   have:l=(l.drop 0).take 4++((l.drop 4).take 4++((l.drop 8).take 4++(l.drop 12).take 4)):=by
    match l,hl with
    |[a0,a1,a2,a3,a4,a5,a6,a7,a8,a9,a10,a11,a12,a13,a14,a15],_=>rfl
   rw[this,show(l.drop 0).take 4=_ from k0,show(l.drop 4).take 4=_ from k1,show(l.drop 8).take 4=_ from k2,show(l.drop 12).take 4=_ from k3];rfl
  have hc:∀ j v,kds[j]? =some v→W.cell? ⟨0,0+j,none⟩=some v:=λj v hv=>by
   rw[Nat.zero_add];have:=World.var?_cell gKin hvar j;rw[this,←hv,←hcs];simp
  exact⟨World.block_lt_of_cell? W _ (hc 0 _ rfl),hc⟩
theorem kat_of2 {W:World} (h:laidMetH Tryz.prog [("chirograph/sha.rounds",Rows.laid_chirograph_sha_rounds),("chirograph/ots.kinds",Rows.laid_chirograph_ots_kinds)] W):KAt W:=
 kat_of (h.filter (λx=>x.1 == "chirograph/sha.rounds"))
noncomputable def laidWorld2 (os:Os):World:=
 { laidWorld os with heap:=(laidWorld os).heap.modify 0 fun
   | .cells _ t frozen=> .cells kds.toArray t frozen
   |o=>o }
end Go.Proofs.YtjlophplcmidlaaGreatDoor
namespace Go.Proofs.YtjlophplcmidlaaGreatDoor.voteChecks
open Go.ChangeShapes Go.WideShapes Go.ChangeAt Go.RowKit Sh
theorem contract (H:Type) (enc:TypeId×Value→H) (W:World) (base:Nat) (args:Array Value) (ds gs:List (DataW H)) (before:List MemPlace)
  (hval:∀ (j:Nat) t v,Tryz.f3.params[j]? =some t→args[j]? =some v→Value.okWide Tryz.prog W .any base t v)
  (hW:DataW.Whole enc Tryz.prog Tryz.f3.params.toList Rows.voteChecksSpec.vars false W args.toList ds gs before) (hL:laidMetH Tryz.prog Rows.voteChecksRow.laid W):
  Calls Tryz.prog 3 args W λe W'=>∃ v,e= .returned v∧Rows.voteChecksSpec.post enc Tryz.prog Tryz.f3 false true false false W args v W':=by
 have hW':=hW;obtain⟨p,q,hA0,hV,rfl,hfz,hnd⟩:=hW;have hA:DataW.TrodAll enc Tryz.prog W 0 (λ_=>true) true Tryz.f3.params.toList args.toList ds p:=hA0;rw[Tryz.params3] at hA hval;obtain⟨v0,vs0,d0,ds0,p0,q0,ea0,rfl,rfl,h0,hA0⟩:=trodAll_cons hA;obtain⟨v1,vs1,d1,ds1,p1,q1,ea1,rfl,rfl,h1,hA1⟩:=trodAll_cons hA0;obtain⟨v2,vs2,d2,ds2,p2,q2,ea2,rfl,rfl,h2,hA2⟩:=trodAll_cons hA1;obtain⟨v3,vs3,d3,ds3,p3,q3,ea3,rfl,rfl,h3,hA3⟩:=trodAll_cons hA2;obtain⟨v4,vs4,d4,ds4,p4,q4,ea4,rfl,rfl,h4,hA4⟩:=trodAll_cons hA3;obtain⟨v5,vs5,d5,ds5,p5,q5,ea5,rfl,rfl,h5,hA5⟩:=trodAll_cons hA4;obtain⟨v6,vs6,d6,ds6,p6,q6,ea6,rfl,rfl,h6,hA6⟩:=trodAll_cons hA5;obtain⟨hn,rfl,rfl⟩:=trodAll_nil hA6;obtain rfl:args= #[v0,v1,v2,v3,v4,v5,v6]:=by
  rw[←Array.toList_inj,ea0,ea1,ea2,ea3,ea4,ea5,ea6,hn]
 obtain⟨rfl,rfl⟩:=trodVars_none hV;obtain⟨n0,rfl,rfl,rfl,wn0⟩:=open_int Tryz.underlying3 (hval 0 3 v0 rfl rfl) h0;obtain⟨n1,rfl,rfl,rfl,wn1⟩:=open_int Tryz.underlying3 (hval 1 3 v1 rfl rfl) h1;obtain⟨l2,hl2,hlb2,rfl⟩:=open_hash (hval 2 23 v2 rfl rfl) h2;obtain⟨n3,rfl,rfl,rfl,wn3⟩:=open_int Tryz.underlying3 (hval 3 3 v3 rfl rfl) h3;obtain⟨n4,rfl,rfl,rfl,wn4⟩:=open_int Tryz.underlying3 (hval 4 3 v4 rfl rfl) h4;obtain⟨n5,rfl,rfl,rfl,wn5⟩:=open_int Tryz.underlying3 (hval 5 3 v5 rfl rfl) h5;obtain⟨z6,rfl,rfl,rfl,wz6⟩:=open_int Tryz.underlying5 (hval 6 5 v6 rfl rfl) h6;have bz6:=bounds_u8 wz6;obtain⟨y6,rfl⟩:=Int.eq_ofNat_of_zero_le bz6.1;refine(vchecks_t n0 n1 l2 n3 n4 n5 y6 W hl2 hlb2 (by omega) (kat_of2 hL) (ki_of hL)).mono λe W' ⟨he,hbl⟩=>?_
 subst he;exact⟨_,rfl,law_post hW' (by kernel_rfl) rfl rfl (λt ht=>by
  rw[Tryz.params3] at ht;have hall:([3,3,23,3,3,3,5]:List Nat).all (λu=>Tryz.prog.readableRec u && decide (u<Tryz.prog.types.size))=true:=by kernel_rfl
  have h:=List.all_eq_true.1 hall t (by simpa using ht)
  simpa using h) hbl⟩
theorem laid_met (os:Os):laidMet Tryz.prog Rows.voteChecksRow.laid ((laidWorld2 os).forCall (λ_ _=>0) ⟨#[], #[.int .i64 0,.int .i64 0,.agg (u8s (List.replicate 32 0)).toArray,.int .i64 0,.int .i64 0,.int .i64 0,.int .u8 0],[]⟩).memory:=
 laidMet_of_run' 8 (by kernel_rfl) (by kernel_rfl)
theorem reads (os:Os) {H:Type} (enc:TypeId×Value→H):∃ places,DataW.whole enc Tryz.prog ((laidWorld2 os).forCall (λ_ _=>0) ⟨#[], #[.int .i64 0,.int .i64 0,.agg (u8s (List.replicate 32 0)).toArray,.int .i64 0,.int .i64 0,.int .i64 0,.int .u8 0],[]⟩).memory Tryz.f3.params.toList Rows.voteChecksSpec.vars false (#[.int .i64 0,.int .i64 0,.agg (u8s (List.replicate 32 0)).toArray,.int .i64 0,.int .i64 0,.int .i64 0,.int .u8 0]:Array Value).toList 8=some ([.lit (.int .i64 0),.lit (.int .i64 0),.agg (List.replicate 32 (.lit (.int .u8 0))),.lit (.int .i64 0),.lit (.int .i64 0),.lit (.int .i64 0),.lit (.int .u8 0)],[],places):=
 ⟨[],by kernel_rfl⟩
theorem lifted (os:Os) (started:os.Started) (H:Type) (enc:TypeId×Value→H) (F:Stop.Interp):
  ReturnsInHanded {} Tryz.checked os 3 .any ((OpenSpec.ofChange Rows.voteChecksSpec).preRow enc Tryz.prog Tryz.f3 Rows.voteChecksRow.domain false Rows.voteChecksRow.laid) (((OpenSpec.ofChange Rows.voteChecksSpec).at F).post enc Tryz.prog Tryz.f3 false true false false):=by
 obtain⟨places,hx⟩:=reads os enc;refine returnsInHanded_of_row (C:=Tryz.checked) (s:=OpenSpec.ofChange Rows.voteChecksSpec) own started (by kernel_rfl) Tryz.func3
  (witness_row_at (enc:=enc) (C:=Tryz.checked) false (laidWorld2 os) #[.int .i64 0,.int .i64 0,.agg (u8s (List.replicate 32 0)).toArray,.int .i64 0,.int .i64 0,.int .i64 0,.int .u8 0] rfl (by kernel_rfl) (by kernel_rfl) (by kernel_rfl)
   (OpenSpec.preRow_of_cond 8 hx (by kernel_rfl) (λk hk=>by cases hk) (by kernel_rfl) (laid_met os))) ?_
 intro W base args ds gs before hval hW _ _ _ hL _ _;exact contract H enc W base args ds gs before hval hW hL
theorem said:Rows.VoteChecksSaid:=
 OpenClaim.holds_of_cond 3 Tryz.f3 rfl rfl rfl rfl rfl rfl rfl ⟨rfl,rfl,rfl,rfl,rfl⟩ rfl rfl rfl rfl rfl (by kernel_rfl) Tryz.func3 (by kernel_rfl)
  (of_decide_eq_true (by kernel_rfl)) (by unfold Func.isWrapper;first |(rw[if_pos (by decide+kernel)];kernel_rfl) |(rw[if_neg (by decide+kernel)];exact⟨rfl,rfl⟩))
  (λos started H enc _ F=>by rw[OpenClaim.pre_eq_preRow];exact lifted os started H enc F)
theorem plain (f:FuncId) (fn:Func) (hf:Tryz.pinned.checked.prog.funcNamed "chirograph/chirographlaw13.VoteChecks" =some f) (hfn:Tryz.pinned.checked.prog.funcs[f]? =some fn):
  false=Tryz.pinned.checked.prog.looks []∧∀ (j:Nat) t,fn.params[j]? =some t→Tryz.pinned.checked.prog.wantsStandIn t=false:=by
 obtain rfl:f=3:=Option.some.inj ((show Tryz.prog.funcNamed "chirograph/chirographlaw13.VoteChecks" =some 3 by kernel_rfl).symm.trans hf) |>.symm;obtain rfl:fn=Tryz.f3:=(Option.some.inj (Tryz.func3.symm.trans hfn)).symm;refine⟨by kernel_rfl,λj t ht=>?_⟩;rw[Tryz.params3] at ht;have hm:t∈[3,3,23,3,3,3,5]:=by simpa using Array.mem_of_getElem? ht
 have hall:(([3,3,23,3,3,3,5]:List Nat).all λu=> !Tryz.prog.wantsStandIn u)=true:=by kernel_rfl
 exact(show Tryz.prog.wantsStandIn t=false by simpa using List.all_eq_true.1 hall t hm)
theorem card:Rows.VoteChecksCardSaid:=
 Claim7.holds_tied_plain_at .later [] _ _ _ _ said (λ_ h=>by cases h) (by kernel_rfl) (λ_ h=>by cases h) voteChecks_row_tie rfl ⟨rfl,rfl⟩ (by kernel_rfl) rfl plain (by kernel_rfl)
end Go.Proofs.YtjlophplcmidlaaGreatDoor.voteChecks
