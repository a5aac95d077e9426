/-
  PACKAGE state
-/
import Derived.Test.YtlipjglehongeaaGreatDoorGb7
open Go.Lib (hid)
set_option maxRecDepth 100000
namespace Go.Proofs.YtlipjglehongeaaGreatDoor
open Go Go.RowKit Sh
theorem wflag_t (F:Nat→Prop) (g:Nat) (l:List Nat) (b:Bool) (w:World) (x:Wr w F g l) (hl:l.length+1≤70368744177664):
  Calls Tryz.prog 195 #[.pointer (some ⟨g,0,none⟩),.bool b] w λe w'=>e= .returned (.tuple #[])∧Wr w' (More w w' F) g (l++beN (flagN b) 1)∧Kept F w w':=by
 cases b with
 |false=>
  have NX:=hid (num_t F g l 0 1 w x (by decide) (by decide) (by decide) hl);clear x
  go_enter Tryz.func195,Tryz.ntmps195
  go_wp2_with fail
  refine NX.out.mono ?_
  rintro e w2 ⟨rfl,x2,k2⟩
  have X2:=hid x2;have K2:=hid k2;clear x2 k2;go_wp2_with fail
  go_end0
  exact⟨rfl,X2.out,K2.out⟩
 |true=>
  have NX:=hid (num_t F g l 1 1 w x (by decide) (by decide) (by decide) hl);clear x
  go_enter Tryz.func195,Tryz.ntmps195
  go_wp2_with fail
  refine NX.out.mono ?_
  rintro e w2 ⟨rfl,x2,k2⟩
  have X2:=hid x2;have K2:=hid k2;clear x2 k2;go_wp2_with fail
  go_end0
  exact⟨rfl,X2.out,K2.out⟩
theorem wflds_t (F:Nat→Prop) (g:Nat) (l:List Nat) (t:List Fld) (c:Nat) (p:Option Addr) (w:World) (x:Wr w F g l) (hr:TR w p t) (hm:pF t) (hl:l.length+300≤70368744177664):
  Calls Tryz.prog 194 #[.pointer (some ⟨g,0,none⟩),.slice p t.length c] w λe w'=>e= .returned (.tuple #[])∧Wr w' (More w w' F) g (l++txtN (pfl t))∧Kept F w w':=by
 have X0:=hid x
 by_cases h0:t.length=0
 ·have TX:=hid (text_t F g l [] none 0 0 w x rfl Sr.nil (λh=>absurd h (by decide)) (by omega));rw[show pfl t=[] from if_pos h0,h0];clear x hr hm h0
  go_enter Tryz.func194,Tryz.ntmps194
  go_wp2_with fail
  refine TX.out.mono ?_
  rintro e w2 ⟨rfl,x2,k2⟩
  have X2:=hid x2;have K2:=hid k2;clear x2 k2;go_wp2_with fail
  exact bodyPost_ret (results_none rfl _ _ _) rfl ⟨rfl,X2.out,K2.out⟩
 ·have hp:mayP t.length (gl t)=true:=by rcases hm with h |h;exact absurd h h0;exact h
  have e1:((t.length:Int) == 0)=false:=by rw[beq_eq_false_iff_ne];omega
  have PY:=hid (Put_yes t.length c p (gl t) w hr.t hp);have PL:=hid (putN_length hp);rw[show pfl t=putN t.length (gl t) from if_neg h0];obtain⟨xs,hxs⟩:∃ l,putN t.length (gl t)=l:=⟨_,rfl⟩;rw[hxs] at PY PL ⊢;obtain⟨n,hn⟩:∃ n,t.length=n:=⟨_,rfl⟩;rw[hn] at PY e1 ⊢;clear x hr hm hp hxs h0 hn
  go_enter Tryz.func194,Tryz.ntmps194
  go_wp2_with fail
  refine PY.out.mono ?_
  rintro e w2 ⟨u,rfl,o2,b2⟩
  obtain⟨A,k,rfl,_⟩:=own_form o2;have S2:=hid (Sr.of_own o2);have LA:=hid (show ∀ a:Addr,A=some a→w.heap.size≤a.block from λa ha=>(o2.lt a.block (by subst ha;rfl)).1);have X2:=hid (X0.out.there.below b2);have B2:=hid b2;clear o2 b2 PY;go_wp2_with fail
  refine(text_t _ g l xs A xs.length k w2 X2.out rfl S2.out (λ_ a ha hf=>by have:=LA.out a ha;have:=hf.2;omega) (by have:=PL.out;omega)).mono ?_
  rintro e w3 ⟨rfl,x3,k3⟩
  have X3:=hid (x3.mono (G:=More w w3 F) λk hk=>by
   have:=B2.out.size;rcases hk with e |e
   ·exact .inl e.1
   ·exact .inr (by omega))
  have K3:=hid ((Kept.of_below (F:=F) B2.out).trans (k3.mono λk e=>e.1));clear x3 k3;go_wp2_with fail
  go_end0
  exact⟨rfl,X3.out,K3.out⟩
structure WI (W0 w W:World) (F:Nat→Prop) (g:Nat) (l:List Nat):Prop where
 wr:Wr W (λk=>More w W F k∧k≠w.heap.size) g l
 kp:Kept F w W
 lt:w.heap.size<W.heap.size
 old:Below W0.heap.size W0 W
section
variable {W0 w W W' : World} {F : Nat → Prop} {g : Nat} {l l' : List Nat}
theorem WI.new {cs:List Value} {t:TypeId} (x:Wr w F g l) (hb:Below W0.heap.size W0 w):WI W0 w (w.alloc (.cells cs.toArray t)) F g l:=by
 have bz:Below w.heap.size w (w.alloc (.cells cs.toArray t)):=(Below.refl _ _).alloc (Nat.le_refl _) _;exact⟨(x.there.below bz).mono λk hk=>⟨.inl hk.1,by have:=hk.2;omega⟩,Kept.of_below bz,by simp,hb.trans (bz.mono hb.size)⟩
theorem WI.step (h:WI W0 w W F g l) (hF:∀ k,F k→W0.heap.size≤k) (hw:W0.heap.size≤w.heap.size) (y:Wr W' (More W W' (λk=>More w W F k∧k≠w.heap.size)) g l') (k:Kept (λk=>More w W F k∧k≠w.heap.size) W W'):WI W0 w W' F g l':=by
 have h1:=h.kp.size;have h2:=k.size;have h3:=h.lt;refine⟨y.mono λi hi=>?_,h.kp.more (k.mono λi e=>e.1),by omega,h.old.trans ((k.mono λi e=>?_).to_below h.old.size)⟩
 ·rcases hi with e |e
  ·exact⟨e.1.grow h2,e.2⟩
  ·exact⟨.inr (by omega),by omega⟩
 ·rcases e.1 with e |e
  ·exact hF i e
  ·omega
theorem WI.box {cs:List Value} {t:TypeId} (k:Kept (λk=>More w W F k∧k≠w.heap.size) W W') (hb:Blk W w.heap.size t cs):Blk W' w.heap.size t cs:=hb.kept k (λe=>e.2 rfl)
theorem WI.fin (h:WI W0 w W F g l):Wr W (More w W F) g l∧Kept F w W:=⟨h.wr.mono λ_ e=>e.1,h.kp⟩
end
theorem witem_t (W0:World) (F:Nat→Prop) (g:Nat) (l:List Nat) (y:Itv) (w:World) (x:Wr w F g l) (hF:∀ k,F k→W0.heap.size≤k) (hb:Below W0.heap.size W0 w) (hy:TR W0 y.p y.i.t) (h:0≤y.i.own∧y.i.own<4∧0≤y.i.un∧y.i.un≤2199023255552∧pF y.i.t) (hl:l.length+400≤70368744177664):
  Calls Tryz.prog 163 #[.pointer (some ⟨g,0,none⟩),.agg (iv y).toArray] w λe w'=>e= .returned (.tuple #[])∧Wr w' (More w w' F) g (l++putI y.i)∧Kept F w w':=by
 have P0:=hid (WI.new (cs:=iv y) (t:=106) x hb);have BX:=hid (Blk.new w 106 (iv y));have HF:=hid hF;have HW:=hid hb.size;have HY:=hid hy;obtain⟨a,ha⟩:∃ a:Nat,y.i.own=(a:Int):=⟨y.i.own.toNat,by have:=h.1;omega⟩;obtain⟨b,hb'⟩:∃ a:Nat,y.i.un=(a:Int):=⟨y.i.un.toNat,by have:=h.2.2.1;omega⟩;have a4:a<4:=by have:=h.2.1;omega
 have b9:b≤2199023255552:=by have:=h.2.2.2.1;omega
 have HP:=hid h.2.2.2.2;have E:=hid (show putI y.i=beN a 1++(beN b 8++txtN (pfl y.i.t)) from by unfold putI;rw[ha,hb'];simp only[Int.toNat_natCast]);have i1:IntKind.u64.wrap (a:Int)=(a:Int):=IntWalk.u64_in _ (by omega);have i2:IntKind.u64.wrap (b:Int)=(b:Int):=IntWalk.u64_in _ (by omega);have RC:=hid (λ(W:World) (hb:Blk W w.heap.size 106 (iv y))=>iv_cells hb);rw[ha,hb'] at RC;clear x hF hb hy ha hb' h
 go_enter Tryz.func163,Tryz.ntmps163
 obtain⟨c0,_,_⟩:=RC.out _ BX.out;go_wp2_with fail
 refine(num_t _ g l a 1 _ P0.out.wr (by omega) (by decide) (by decide) (by first |omega |(simp only[List.length_append,beN_length];omega))).mono ?_
 rintro e w3 ⟨rfl,x2,k2⟩
 have P3:=hid (P0.out.step HF.out HW.out x2 k2);have B3:=hid (WI.box k2 BX.out);clear x2 k2 P0 BX;clear c0;obtain⟨_,c1,_⟩:=RC.out _ B3.out;go_wp2_with fail
 refine(num_t _ g _ b 8 _ P3.out.wr (by omega) (by decide) (by decide) (by first |omega |(simp only[List.length_append,beN_length];omega))).mono ?_
 rintro e w4 ⟨rfl,x2,k2⟩
 have P4:=hid (P3.out.step HF.out HW.out x2 k2);have B4:=hid (WI.box k2 B3.out);clear x2 k2 P3 B3;clear c1;obtain⟨_,_,c2⟩:=RC.out _ B4.out;have TY:=hid (HY.out.below P4.out.old);go_wp2_with fail
 refine(wflds_t _ g _ y.i.t y.c y.p w4 P4.out.wr TY.out HP.out (by simp only[List.length_append,beN_length];omega)).mono ?_
 rintro e w5 ⟨rfl,x2,k2⟩
 have P5:=hid (P4.out.step HF.out HW.out x2 k2);clear x2 k2 P4 B4 c2 TY;go_wp2_with fail
 go_end0
 refine⟨rfl,?_,P5.out.fin.2⟩;have:=P5.out.fin.1
 rwa [List.append_assoc,List.append_assoc,←E.out] at this
theorem wwait_t (W0:World) (F:Nat→Prop) (g:Nat) (l:List Nat) (y:Wtv) (w:World) (x:Wr w F g l) (hF:∀ k,F k→W0.heap.size≤k) (hb:Below W0.heap.size W0 w) (hy:TR W0 y.p y.x.p) (h:0≤y.x.cl∧y.x.cl<4∧1≤y.x.sq∧y.x.sq≤1073741824∧pF y.x.p) (hl:l.length+400≤70368744177664):
  Calls Tryz.prog 164 #[.pointer (some ⟨g,0,none⟩),.agg (wv y).toArray] w λe w'=>e= .returned (.tuple #[])∧Wr w' (More w w' F) g (l++putW y.x)∧Kept F w w':=by
 have P0:=hid (WI.new (cs:=wv y) (t:=109) x hb);have BX:=hid (Blk.new w 109 (wv y));have HF:=hid hF;have HW:=hid hb.size;have HY:=hid hy;obtain⟨a,ha⟩:∃ a:Nat,y.x.cl=(a:Int):=⟨y.x.cl.toNat,by have:=h.1;omega⟩;obtain⟨b,hb'⟩:∃ a:Nat,y.x.sq=(a:Int):=⟨y.x.sq.toNat,by have:=h.2.2.1;omega⟩;have a4:a<4:=by have:=h.2.1;omega
 have b9:b≤1073741824:=by have:=h.2.2.2.1;omega
 have HP:=hid h.2.2.2.2;have E:=hid (show putW y.x=beN a 1++(beN b 4++(beN (flagN y.x.tk) 1++txtN (pfl y.x.p))) from by unfold putW;rw[ha,hb'];simp only[Int.toNat_natCast]);have i1:IntKind.u64.wrap (a:Int)=(a:Int):=IntWalk.u64_in _ (by omega);have i2:IntKind.u64.wrap (b:Int)=(b:Int):=IntWalk.u64_in _ (by omega);have RC:=hid (λ(W:World) (hb:Blk W w.heap.size 109 (wv y))=>wv_cells hb);rw[ha,hb'] at RC;clear x hF hb hy ha hb' h
 go_enter Tryz.func164,Tryz.ntmps164
 obtain⟨c0,_,_,_⟩:=RC.out _ BX.out;go_wp2_with fail
 refine(num_t _ g l a 1 _ P0.out.wr (by omega) (by decide) (by decide) (by first |omega |(simp only[List.length_append,beN_length];omega))).mono ?_
 rintro e w3 ⟨rfl,x2,k2⟩
 have P3:=hid (P0.out.step HF.out HW.out x2 k2);have B3:=hid (WI.box k2 BX.out);clear x2 k2 P0 BX;clear c0;obtain⟨_,c1,_,_⟩:=RC.out _ B3.out;go_wp2_with fail
 refine(num_t _ g _ b 4 _ P3.out.wr (by omega) (by decide) (by decide) (by first |omega |(simp only[List.length_append,beN_length];omega))).mono ?_
 rintro e w4 ⟨rfl,x2,k2⟩
 have P4:=hid (P3.out.step HF.out HW.out x2 k2);have B4:=hid (WI.box k2 B3.out);clear x2 k2 P3 B3;clear c1;obtain⟨_,_,c2,_⟩:=RC.out _ B4.out;go_wp2_with fail
 refine(wflag_t _ g _ y.x.tk w4 P4.out.wr (by simp only[List.length_append,beN_length];omega)).mono ?_
 rintro e w5 ⟨rfl,x2,k2⟩
 have P5:=hid (P4.out.step HF.out HW.out x2 k2);have B5:=hid (WI.box k2 B4.out);clear x2 k2 P4 B4 c2;obtain⟨_,_,_,c3⟩:=RC.out _ B5.out;have TY:=hid (HY.out.below P5.out.old);go_wp2_with fail
 refine(wflds_t _ g _ y.x.p y.c y.p w5 P5.out.wr TY.out HP.out (by simp only[List.length_append,beN_length];omega)).mono ?_
 rintro e w6 ⟨rfl,x2,k2⟩
 have P6:=hid (P5.out.step HF.out HW.out x2 k2);clear x2 k2 P5 B5 c3 TY;go_wp2_with fail
 go_end0
 refine⟨rfl,?_,P6.out.fin.2⟩;have:=P6.out.fin.1
 rwa [List.append_assoc,List.append_assoc,List.append_assoc,←E.out] at this
theorem wrep_t (W0:World) (F:Nat→Prop) (g:Nat) (l:List Nat) (y:Rpv) (w:World) (x:Wr w F g l) (hF:∀ k,F k→W0.heap.size≤k) (hb:Below W0.heap.size W0 w) (hy:TR W0 y.p y.r.t) (h:0≤y.r.sq∧y.r.sq≤1073741824∧0≤y.r.kd∧y.r.kd≤6∧pF y.r.t) (hl:l.length+400≤70368744177664):
  Calls Tryz.prog 165 #[.pointer (some ⟨g,0,none⟩),.agg (pv y).toArray] w λe w'=>e= .returned (.tuple #[])∧Wr w' (More w w' F) g (l++putL y.r)∧Kept F w w':=by
 have P0:=hid (WI.new (cs:=pv y) (t:=43) x hb);have BX:=hid (Blk.new w 43 (pv y));have HF:=hid hF;have HW:=hid hb.size;have HY:=hid hy;obtain⟨a,ha⟩:∃ a:Nat,y.r.sq=(a:Int):=⟨y.r.sq.toNat,by have:=h.1;omega⟩;obtain⟨b,hb'⟩:∃ a:Nat,y.r.kd=(a:Int):=⟨y.r.kd.toNat,by have:=h.2.2.1;omega⟩;have a4:a≤1073741824:=by have:=h.2.1;omega
 have b9:b≤6:=by have:=h.2.2.2.1;omega
 have HP:=hid h.2.2.2.2;have E:=hid (show putL y.r=beN a 4++(beN b 1++(beN (flagN y.r.lt) 1++txtN (pfl y.r.t))) from by unfold putL;rw[ha,hb'];simp only[Int.toNat_natCast]);have i1:IntKind.u64.wrap (a:Int)=(a:Int):=IntWalk.u64_in _ (by omega);have i2:IntKind.u64.wrap (b:Int)=(b:Int):=IntWalk.u64_in _ (by omega);have RC:=hid (λ(W:World) (hb:Blk W w.heap.size 43 (pv y))=>pv_cells hb);rw[ha,hb'] at RC;clear x hF hb hy ha hb' h
 go_enter Tryz.func165,Tryz.ntmps165
 obtain⟨_,c0,_,_,_⟩:=RC.out _ BX.out;go_wp2_with fail
 refine(num_t _ g l a 4 _ P0.out.wr (by omega) (by decide) (by decide) (by first |omega |(simp only[List.length_append,beN_length];omega))).mono ?_
 rintro e w3 ⟨rfl,x2,k2⟩
 have P3:=hid (P0.out.step HF.out HW.out x2 k2);have B3:=hid (WI.box k2 BX.out);clear x2 k2 P0 BX;clear c0;obtain⟨_,_,c1,_,_⟩:=RC.out _ B3.out;go_wp2_with fail
 refine(num_t _ g _ b 1 _ P3.out.wr (by omega) (by decide) (by decide) (by first |omega |(simp only[List.length_append,beN_length];omega))).mono ?_
 rintro e w4 ⟨rfl,x2,k2⟩
 have P4:=hid (P3.out.step HF.out HW.out x2 k2);have B4:=hid (WI.box k2 B3.out);clear x2 k2 P3 B3;clear c1;obtain⟨_,_,_,_,c2⟩:=RC.out _ B4.out;go_wp2_with fail
 refine(wflag_t _ g _ y.r.lt w4 P4.out.wr (by simp only[List.length_append,beN_length];omega)).mono ?_
 rintro e w5 ⟨rfl,x2,k2⟩
 have P5:=hid (P4.out.step HF.out HW.out x2 k2);have B5:=hid (WI.box k2 B4.out);clear x2 k2 P4 B4 c2;obtain⟨_,_,_,c3,_⟩:=RC.out _ B5.out;have TY:=hid (HY.out.below P5.out.old);go_wp2_with fail
 refine(wflds_t _ g _ y.r.t y.c y.p w5 P5.out.wr TY.out HP.out (by simp only[List.length_append,beN_length];omega)).mono ?_
 rintro e w6 ⟨rfl,x2,k2⟩
 have P6:=hid (P5.out.step HF.out HW.out x2 k2);clear x2 k2 P5 B5 c3 TY;go_wp2_with fail
 go_end0
 refine⟨rfl,?_,P6.out.fin.2⟩;have:=P6.out.fin.1
 rwa [List.append_assoc,List.append_assoc,List.append_assoc,←E.out] at this
end Go.Proofs.YtlipjglehongeaaGreatDoor
