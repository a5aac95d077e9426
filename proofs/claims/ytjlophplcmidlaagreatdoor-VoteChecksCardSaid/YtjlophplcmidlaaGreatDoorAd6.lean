/-
  PACKAGE ots, THE DIGITS
-/
import Derived.Test.YtjlophplcmidlaaGreatDoorAd3
import Derived.Test.YtjlophplcmidlaaGreatDoorAd5
import Derived.Test.YtjlophplcmidlaaGreatDoorTk
open Go.Lib (hid)
set_option maxRecDepth 100000
namespace Go.Proofs.YtjlophplcmidlaaGreatDoor
open Go Go.RowKit Sh
theorem range_of_blk {w:World} {g:Nat} {t:TypeId} {cs:List Value} (h:Blk w g t cs):w.rangeAt g 0 cs:=λj v hv=>by rw[Nat.zero_add,h.cell,hv]
def ints (l:List Nat):List Value:=l.map λ(n:Nat)=> .int .i64 (n:Int)
theorem ints_length (l:List Nat):(ints l).length=l.length:=List.length_map _
theorem ints_one (l:List Nat):(ints l).toArray.all (·.oneCell')=true:=all_oneCell_toArray (λv hv=>by obtain⟨n,_,rfl⟩:=List.mem_map.1 hv;rfl)
theorem ints_each (l:List Nat):∀ v∈ints l,v.oneCell'=true:=λv hv=>by obtain⟨n,_,rfl⟩:=List.mem_map.1 hv;rfl
theorem ints_get (l:List Nat) (i:Nat) (h:i<l.length):(ints l)[i]? =some (.int .i64 ((gt l i:Nat):Int)):=by
 simp[ints,gt,List.getD_eq_getElem?_getD,List.getElem?_eq_getElem h]
theorem ints_set (l:List Nat) (i v:Nat):(ints l).set i (.int .i64 (v:Int))=ints (l.set i v):=by simp[ints,List.map_set]
def dv (f:Nat→Nat) (n m:Nat):List Nat:=(List.range n).map f++List.replicate (m-n) 0
theorem dv_length (f:Nat→Nat) {n m:Nat} (h:n≤m):(dv f n m).length=m:=by simp[dv];omega
theorem dv_get (f:Nat→Nat) {n m j:Nat} (h:j<n):gt (dv f n m) j=f j:=by
 unfold dv;rw[gt_app_left (by simpa using h)];simp[gt,List.getD_eq_getElem?_getD,h]
theorem dv_set (f:Nat→Nat) {n m:Nat} (h:n<m):(dv f n m).set n (f n)=dv f (n+1) m:=by
 unfold dv;obtain⟨k,hk⟩:∃ k,m-n=k+1:=⟨m-n-1,by omega⟩;rw[hk,show m- (n+1)=k from by omega,List.set_append_right _ _ (by simp),List.range_succ];simp[List.replicate_succ]
theorem coefN_lt (w:Nat) (l:List Nat) (n:Nat):coefN w l n<2 ^ w:=Nat.mod_lt _ (Nat.two_pow_pos w)
theorem coefN_app (w:Nat) (hw:w=1∨w=2∨w=4∨w=8) (h t:List Nat) (n:Nat) (hl:h.length=32) (hn:n<256 / w):coefN w (h++t) n=coefN w h n:=by
 unfold coefN;rw[gt_app_left];rw[hl];rcases hw with rfl |rfl |rfl |rfl<;>simp at hn ⊢ <;>omega
def sumN (w:Nat) (h:List Nat):Nat→Nat
 |0=>0
 |n+1=>sumN w h n+(2 ^ w-1-coefN w h n)
theorem sumN_le (w:Nat) (h:List Nat) (n:Nat):sumN w h n≤n * (2 ^ w-1):=by
 induction n with
 |zero=>simp[sumN]
 |succ n ih=>rw[sumN,Nat.succ_mul];omega
def cksN (w ls:Nat) (h:List Nat):Nat:=sumN w h (256 / w) * 2 ^ ls
def extN (w ls:Nat) (h:List Nat):List Nat:=h++[cksN w ls h / 256 % 256,cksN w ls h % 256]
def digN (w ls:Nat) (h:List Nat) (n:Nat):Nat:=coefN w (extN w ls h) n
theorem digN_own (w ls:Nat) (hw:w=1∨w=2∨w=4∨w=8) (h:List Nat) (hl:h.length=32) (n:Nat) (hn:n<256 / w):digN w ls h n=coefN w h n:=coefN_app w hw h _ n hl hn
theorem extN_length (w ls:Nat) (h:List Nat) (hl:h.length=32):(extN w ls h).length=34:=by simp[extN,hl]
theorem extN_bytes (w ls:Nat) (h:List Nat) (hb:Bytes h):Bytes (extN w ls h):=app_bytes hb (sl_bytes (by
 intro x hx;simp at hx;omega))
theorem zero265:(Tryz.prog.info? 161).map (λi=>(i.zero,i.size))=some (some (.agg (ints (List.replicate 265 0)).toArray),265):=by kernel_rfl
theorem size265 (l:List Nat) (h:l.length=265):(Tryz.prog.info? 161).map (·.size)=some (ints l).length:=by
 rw[ints_length,h]
 kernel_rfl
theorem size34 (l:List Nat) (h:l.length=34):(Tryz.prog.info? 185).map (·.size)=some (u8s l).length:=by
 rw[u8s_length,h]
 kernel_rfl
theorem set_32 (h:List Nat) (hl:h.length=32) (a b:Nat):((h++[0,0]).set 32 a).set 33 b=h++[a,b]:=by
 rw[List.set_append_right _ _ (by omega),List.set_append_right _ _ (by omega)];simp[hl]
set_option maxHeartbeats 1000000 in
theorem digits_0 (h:List Nat) (w:World) (hl:h.length=32) (hb:Bytes h):
  Calls Tryz.prog 115 #[.agg #[.int .u64 1,.int .i64 1,.int .i64 265,.int .i64 7],.agg (u8s h).toArray] w λe w'=>e= .returned (.agg (ints (dv (digN 1 7 h) 265 265)).toArray)∧Below w.heap.size w w':=by
 have HL:=hid hl;have HB:=hid hb;clear hl hb;have hz:=(zero_of_info zero265).1;obtain⟨Z,hZ⟩:∃ Z,List.replicate 265 0=Z:=⟨_,rfl⟩;rw[hZ] at hz;have HZ:=hid hZ;clear hZ
 go_enter Tryz.func115,Tryz.ntmps115
 go_wp2
 refine world_is (λW=>Blk W w.heap.size 156 (kv (kd 0))∧Blk W (w.heap.size+1) 23 (u8s h)∧Blk W (w.heap.size+1+1) 161 (ints Z)∧Blk W (w.heap.size+1+1+1) 161 (ints Z)∧Blk W (w.heap.size+1+1+1+1) 185 (u8s (List.replicate 34 0))∧Below w.heap.size w W)
  ⟨((((Blk.new _ _ (kv (kd 0))).alloc _).alloc _).alloc _).alloc _,((((Blk.new2 _ _ _ (u8s h)).alloc _).alloc _).alloc _),((blk_at (by simp) _ _ (ints Z)).alloc _).alloc _,(blk_at (by simp) _ _ (ints Z)).alloc _,blk_at (by simp) _ _ (u8s (List.replicate 34 0)),(((((Below.refl _ _).alloc (Nat.le_refl _) _).alloc (by simp) _).alloc (by simp;omega) _).alloc (by simp;omega) _).alloc (by simp;omega) _⟩ ?_
 rintro W ⟨k0,k1,k2,k3,k4,bW⟩
 obtain⟨g1,hg1⟩:∃ g,w.heap.size+1=g:=⟨_,rfl⟩;rw[hg1] at k1 k2 k3 k4 ⊢;obtain⟨g2,hg2⟩:∃ g,g1+1=g:=⟨_,rfl⟩;rw[hg2] at k2 k3 k4 ⊢;obtain⟨g3,hg3⟩:∃ g,g2+1=g:=⟨_,rfl⟩;rw[hg3] at k3 k4 ⊢;obtain⟨g4,hg4⟩:∃ g,g3+1=g:=⟨_,rfl⟩;rw[hg4] at k4 ⊢;have l1:w.heap.size<g1:=by omega
 have l2:g1<g2:=by omega
 have l3:g2<g3:=by omega
 have l4:g3<g4:=by omega
 clear hg1 hg2 hg3 hg4;have K0:=hid k0;have K1:=hid k1;have K2:=hid k2;have K3:=hid k3;have BW:=hid bW;have K4:=hid (show Blk W.drew g4 185 ([]++(u8s (List.replicate 32 0)++u8s [0,0])) from k4);clear k0 k1 k2 k3 k4 bW;refine wp_region_still_tail 2 (by kernel_rfl) (by kernel_rfl) ?_;simp only[List.take_succ_cons,List.take_zero,List.drop_succ_cons,List.drop_zero]
 repeat (refine wpStill_step (λK hK=>?_);go_simp;(try go_bits);refine hK _ ?_;clear hK K)
 refine wpStill_nil ?_;have hlen:(u8s (List.replicate 32 0)).length=(u8s h).length:=by rw[u8s_length,u8s_length,HL.out,List.length_replicate]
 have hlen2:(u8s h).length=32:=by rw[u8s_length,HL.out]
 have HLEN:=hid hlen;have HLEN2:=hid hlen2;clear hlen hlen2;refine copy_part (.tmp 11) (.tmp 12) 25 25 5 g4 0 34 34 32 32 32 (some ⟨g4,0,none⟩) (some ⟨g1,0,none⟩) 185 [] (u8s (List.replicate 32 0)) (u8s [0,0]) (u8s h) rfl rfl Tryz.underlying25 byte_size K4.out rfl HLEN.out HLEN2.out rfl rfl (λ_=>⟨rfl,_,rfl,λj v hv=>by rw[Addr.add_mid,Nat.zero_add];exact(K1.out.drew.cell j).trans hv⟩) (u8s_each _) HLEN2.out ?_;intro w2 a1 a2 a3;have bt:=a2.out;have K0':=hid (K0.out.drew.but bt K0.out.lt (by omega));have K2':=hid (K2.out.drew.but bt K2.out.lt (by omega));have K3':=hid (K3.out.drew.but bt K3.out.lt (by omega));have B2:=hid (BW.out.drew.trans (bt.below (by omega) BW.out.size));have K4':=hid (show Blk w2 g4 185 (u8s (h++[0,0])) by rw[u8s_app];exact a1.out);clear a1 a2 a3 bt K0 K1 K2 K3 K4 BW;have c0:w2.cell? ⟨w.heap.size,1,none⟩=some (.int .i64 1):=K0'.out.cell 1;go_wp2_with fail
 have topc:∀ W,Calls Tryz.prog 121 #[.agg (kv (kd 0)).toArray] W λe w'=>e= .returned (.int .i64 1)∧Below W.heap.size W w':=λW=>top_t 0 (by omega) W
 have TOPC:=hid topc;clear c0 topc
 go_loopw [7,18] (λs i wr=>∃ k:Nat,k≤256∧i= .int .i64 k∧s= .int .i64 ((sumN 1 h k:Nat):Int)∧Blk wr w.heap.size 156 (kv (kd 0))∧Blk wr g2 161 (ints Z)∧Blk wr g3 161 (ints (dv (digN 1 7 h) k 265))∧Blk wr g4 185 (u8s (h++[0,0]))∧Below w.heap.size w wr) (λ_ i _=>256- (intOf i).toNat)
 case atStart=>exact⟨0,by omega,rfl,rfl,K0'.out,K2'.out,by have:=K3'.out;rw[←HZ.out] at this;exact this,K4'.out,B2.out⟩
 case round=>
  clear K0' K2' K3' K4' B2;obtain⟨k,hk,rfl,rfl,k0,k2,k3,k4,bw⟩:=hrel
  by_cases hlt:k<256
  ·have K0:=hid k0;have K2:=hid k2;have K3:=hid k3;have K4:=hid k4;have BW:=hid bw;clear k0 k2 k3 k4 bw;have i1:(k:Int)<265:=by omega
   have hlen3:(dv (digN 1 7 h) k 265).length=265:=dv_length _ (by omega);obtain⟨c,hc⟩:∃ c,coefN 1 (h++[0,0]) k=c:=⟨_,rfl⟩;have c1:c≤1:=by rw[←hc];exact Nat.le_of_lt_succ (coefN_lt 1 _ _)
   have hcd:digN 1 7 h k=c:=by rw[←hc,digN_own 1 7 (by decide) h HL.out k (by simpa using hlt),coefN_app 1 (by decide) h _ k HL.out (by simpa using hlt)]
   have HLEN3:=hid hlen3;have HC:=hid hc;have HCD:=hid hcd;clear hlen3 hc hcd
   go_wp2_with (first
    |((with_reducible refine load_blk 156 (.tmp 2) w.heap.size 156 (kv (kd 0)) _ rfl rfl ?_ Tryz.underlying156 ?_ ?_ ?_ ?_);exact K0.out;exact rfl;exact kv_size _;exact rfl)
    |((with_reducible refine load_blk 185 (.tmp 6) g4 185 (u8s (h++[0,0])) _ rfl rfl ?_ Tryz.underlying185 ?_ ?_ ?_ ?_);exact K4.out;exact rfl;exact size34 _ (by rw[List.length_append,HL.out];rfl);exact rfl)
    |fail)
   refine(coef_t 0 (by omega) (h++[0,0]) k wr (by rw[List.length_append,HL.out];rfl) (app_bytes HB.out (sl_bytes (by decide))) (by show k<34 * (8 / 1);omega)).mono ?_
   rintro e w3 ⟨rfl,b3⟩
   rw[show coefN (kd 0).w (h++[0,0]) k=c from HC.out];have M0:=hid (K0.out.below b3 K0.out.lt);have M2:=hid (K2.out.below b3 K2.out.lt);have M3:=hid (K3.out.below b3 K3.out.lt);have M4:=hid (K4.out.below b3 K4.out.lt);have B3:=hid (BW.out.trans (b3.mono BW.out.size));clear b3;have cv:w3.cell? ⟨g3,k,none⟩=some (.int .i64 ((gt (dv (digN 1 7 h) k 265) k:Nat):Int)):=by rw[M3.out.cell,ints_get _ _ (by rw[HLEN3.out];omega)]
   have cf:=M3.out.frozen k;go_wp2_with fail
   clear cv cf;have m3:=M3.out.store k (.int .i64 (c:Int));rw[ints_set,show(dv (digN 1 7 h) k 265).set k c=dv (digN 1 7 h) (k+1) 265 from by rw[←HCD.out,dv_set _ (by omega)]] at m3;have B4:=hid (B3.out.setCell (p:=⟨g3,k,none⟩) (by show w.heap.size≤g3;omega) (.int .i64 (c:Int)));have M0':=hid (M0.out.far (p:=⟨g3,k,none⟩) (by show w.heap.size≠g3;omega) (.int .i64 (c:Int)));have M2':=hid (M2.out.far (p:=⟨g3,k,none⟩) (by show g2≠g3;omega) (.int .i64 (c:Int)));have M4':=hid (M4.out.far (p:=⟨g3,k,none⟩) (by show g4≠g3;omega) (.int .i64 (c:Int)));have M3':=hid m3;clear m3;refine world_is (λW=>Blk W w.heap.size 156 (kv (kd 0))∧Blk W g2 161 (ints Z)∧Blk W g3 161 (ints (dv (digN 1 7 h) (k+1) 265))∧Blk W g4 185 (u8s (h++[0,0]))∧Below w.heap.size w W) ⟨M0'.out,M2'.out,M3'.out,M4'.out,B4.out⟩ ?_;clear M0 M2 M3 M4 M0' M2' M3' M4' B3 B4 K0 K2 K3 K4 BW
   rintro w4 ⟨k0,k2,k3,k4,bw⟩
   have rk:w4.drew.rangeAt w.heap.size 0 (kv (kd 0))∧w4.drew.cell? ⟨g3,k,none⟩=some (.int .i64 (c:Int)):=⟨range_of_blk k0.drew,by
    rw[k3.drew.cell,ints_get _ _ (by rw[dv_length _ (by omega)];omega),dv_get _ (by omega),HCD.out]⟩
   have K0:=hid k0.drew;have K2:=hid k2.drew;have K3:=hid k3.drew;have K4:=hid k4.drew;have BW:=hid bw.drew;obtain⟨d,hd⟩:∃ d,1-c=d:=⟨_,rfl⟩;have hsu:=sumN_le 1 h k;obtain⟨s,hs⟩:∃ s,sumN 1 h k=s:=⟨_,rfl⟩;rw[hs] at hsu ⊢;have e1:IntKind.i64.wrap (1- (c:Int))=(d:Int):=by rw[show(1:Int) - (c:Int)=(d:Int) from by omega];exact IntWalk.i64_in _ (by omega)
   obtain⟨t,ht⟩:∃ t,s+d=t:=⟨_,rfl⟩;have e2:IntKind.i64.wrap ((s:Int)+(d:Int))=(t:Int):=by rw[show(s:Int)+(d:Int)=(t:Int) from by omega];exact IntWalk.i64_in _ (by simp at hsu;omega)
   have HT:=hid (show sumN 1 h (k+1)=t by
    rw[sumN,hs,←coefN_app 1 (by decide) h [0,0] k HL.out (by simpa using hlt),HC.out,←ht,←hd])
   clear k0 k2 k3 k4 bw hd hs ht hsu;refine wp_region_held (S:=λV=>V.rangeAt w.heap.size 0 (kv (kd 0))∧V.cell? ⟨g3,k,none⟩=some (.int .i64 (c:Int))) (by kernel_rfl) ?_;change wpAnyH _ _ _ _ _ _ _ _ w4.drew;refine tka9 0 rk ?_;refine tkg9 1 (v:= .agg (kv (kd 0)).toArray) (yieldsIf_load_mid (by kernel_rfl) 156 (.tmp 2) rfl w.heap.size 0 (by go_simp) (kv (kd 0)) _ (λ_ h=>h.1) Tryz.underlying156 rfl (kv_size _)) rk ?_;refine tka9 3 rk ?_;refine tka9 4 rk ?_;refine tk9 5 ?_ ?_ rk ?_;rotate_left 1
   ·(intro w hS;have hs:=hS.2;clear hS;go_simp;try (with_reducible rfl))
   refine rd9 2 λK hK=>?_
   go_simp;refine(TOPC.out w4.drew).mono ?_
   rintro e w5 ⟨rfl,b5⟩
   have M0:=hid (K0.out.below b5 K0.out.lt);have M2:=hid (K2.out.below b5 K2.out.lt);have M3:=hid (K3.out.below b5 K3.out.lt);have M4:=hid (K4.out.below b5 K4.out.lt);have B5:=hid (BW.out.trans (b5.mono BW.out.size));have r5:w5.rangeAt w.heap.size 0 (kv (kd 0))∧w5.cell? ⟨g3,k,none⟩=some (.int .i64 (c:Int)):=⟨range_of_blk M0.out,(b5.cell (p:=⟨g3,k,none⟩) K3.out.lt).trans rk.2⟩;clear b5 rk K0 K2 K3 K4 BW;refine hK.out _ _ r5 (λ_=>?_);clear hK K;refine tka9 6 r5 ?_;refine tka9 7 r5 ?_;refine tka9 8 r5 ?_;refine wpAnyH_done (by kernel_rfl) ?_ _;go_simp;clear e1 e2 r5;go_wp2_with fail
   go_roundw
   case rel=>exact⟨k+1,by omega,by go_num,by rw[HT.out],M0.out,M2.out,M3.out,M4.out,B5.out⟩
   case measure=>simp[intOf];omega
  ·obtain rfl:k=256:=by omega
   rw[show((256:Nat):Int)=256 from rfl];have K0:=hid k0;have K2:=hid k2;have K3:=hid k3;have K4:=hid k4;have BW:=hid bw;have hsu:=sumN_le 1 h 256;have c3:wr.cell? ⟨w.heap.size,3,none⟩=some (.int .i64 7):=k0.cell 3;have f32:=k4.frozen 32;have f33:=k4.frozen 33;have h32:wr.cell? ⟨g4,32,none⟩=some (.int .u8 0):=by
    rw[k4.cell,u8s_get _ _ (by rw[List.length_append,HL.out];decide),gt_app_right (by rw[HL.out];decide),HL.out];rfl
   have h33:wr.cell? ⟨g4,33,none⟩=some (.int .u8 0):=by
    rw[k4.cell,u8s_get _ _ (by rw[List.length_append,HL.out];decide),gt_app_right (by rw[HL.out];decide),HL.out];rfl
   obtain⟨s,hs⟩:∃ s,sumN 1 h 256=s:=⟨_,rfl⟩;rw[hs] at hsu ⊢;have s1:(s:Int)≤8160:=by simp at hsu;omega
   have HS:=hid hs;clear hlt hk k0 k2 k3 k4 bw hs hsu;go_wp2_with fail
   have m4:=(K4.out.store 32 (.int .u8 ((s:Int) * 128 / 256 % 256))).store 33 (.int .u8 ((s:Int) * 128 % 256));rw[show((s:Int) * 128 / 256 % 256)=((s * 2 ^ 7 / 256 % 256:Nat):Int) from by omega,show((s:Int) * 128 % 256)=((s * 2 ^ 7 % 256:Nat):Int) from by omega,u8s_set,u8s_set,set_32 h HL.out,show h++[s * 2 ^ 7 / 256 % 256,s * 2 ^ 7 % 256]=extN 1 7 h from by unfold extN cksN;rw[show 256 / 1=256 from rfl,HS.out]] at m4;refine world_is (λW=>Blk W w.heap.size 156 (kv (kd 0))∧Blk W g2 161 (ints Z)∧Blk W g3 161 (ints (dv (digN 1 7 h) 256 265))∧Blk W g4 185 (u8s (extN 1 7 h))∧Below w.heap.size w W)
    ⟨(K0.out.far (by show w.heap.size≠g4;omega) _).far (by show w.heap.size≠g4;omega) _,(K2.out.far (by show g2≠g4;omega) _).far (by show g2≠g4;omega) _,(K3.out.far (by show g3≠g4;omega) _).far (by show g3≠g4;omega) _,by
     have v1:((s * 2 ^ 7 / 256 % 256:Nat):Int)=(s:Int) * 128 / 256 % 256:=by omega
     have v2:((s * 2 ^ 7 % 256:Nat):Int)=(s:Int) * 128 % 256:=by omega
     rw[v1,v2] at m4;exact m4,(BW.out.setCell (by show w.heap.size≤g4;omega) _).setCell (by show w.heap.size≤g4;omega) _⟩ ?_
   clear m4 K0 K2 K3 K4 BW c3 f32 f33 h32 h33 s1 HS
   rintro w4 ⟨k0,k2,k3,k4,bw⟩
   have K0:=hid k0;have K2:=hid k2;have K3:=hid k3;have K4:=hid k4;have BW:=hid bw;clear k0 k2 k3 k4 bw
   go_loopw [10] (λi wr=>∃ k:Nat,256≤k∧k≤265∧i= .int .i64 k∧Blk wr w.heap.size 156 (kv (kd 0))∧Blk wr g2 161 (ints Z)∧Blk wr g3 161 (ints (dv (digN 1 7 h) k 265))∧Blk wr g4 185 (u8s (extN 1 7 h))∧Below w.heap.size w wr) (λi _=>265- (intOf i).toNat)
   case atStart=>exact⟨256,by omega,by omega,rfl,K0.out,K2.out,K3.out,K4.out,BW.out⟩
   case round=>
    clear K0 K2 K3 K4 BW;obtain⟨k,hk1,hk2,rfl,k0,k2,k3,k4,bw⟩:=hrel;have K0:=hid k0;have K2:=hid k2;have K3:=hid k3;have K4:=hid k4;have BW:=hid bw;have c2:wr.cell? ⟨w.heap.size,2,none⟩=some (.int .i64 265):=k0.cell 2;clear k0 k2 k3 k4 bw
    by_cases hlt:k<265
    ·have i1:(k:Int)<265:=by omega
     have i2:(k:Int)<265:=by omega
     have hlen3:(dv (digN 1 7 h) k 265).length=265:=dv_length _ (by omega);have HLEN3:=hid hlen3;clear hlen3
     go_wp2_with (first
      |((with_reducible refine load_blk 156 (.tmp 2) w.heap.size 156 (kv (kd 0)) _ rfl rfl ?_ Tryz.underlying156 ?_ ?_ ?_ ?_);exact K0.out;exact rfl;exact kv_size _;exact rfl)
      |((with_reducible refine load_blk 185 (.tmp 6) g4 185 (u8s (extN 1 7 h)) _ rfl rfl ?_ Tryz.underlying185 ?_ ?_ ?_ ?_);exact K4.out;exact rfl;exact size34 _ (extN_length _ _ _ HL.out);exact rfl)
      |fail)
     refine(coef_t 0 (by omega) (extN 1 7 h) k wr (extN_length _ _ _ HL.out) (extN_bytes _ _ _ HB.out) (by show k<34 * (8 / 1);omega)).mono ?_
     rintro e w3 ⟨rfl,b3⟩
     rw[show coefN (kd 0).w (extN 1 7 h) k=digN 1 7 h k from rfl];have M0:=hid (K0.out.below b3 K0.out.lt);have M2:=hid (K2.out.below b3 K2.out.lt);have M3:=hid (K3.out.below b3 K3.out.lt);have M4:=hid (K4.out.below b3 K4.out.lt);have B3:=hid (BW.out.trans (b3.mono BW.out.size));clear b3 K0 K2 K3 K4 BW;have cv:w3.cell? ⟨g3,k,none⟩=some (.int .i64 ((gt (dv (digN 1 7 h) k 265) k:Nat):Int)):=by rw[M3.out.cell,ints_get _ _ (by rw[HLEN3.out];omega)]
     have cf:=M3.out.frozen k;go_wp2_with fail
     clear cv cf;have m3:=M3.out.store k (.int .i64 ((digN 1 7 h k:Nat):Int));rw[ints_set,dv_set _ (by omega)] at m3;have M3':=hid m3;clear m3
     go_roundw
     case rel=>exact⟨k+1,by omega,by omega,by go_num,M0.out.far (by show w.heap.size≠g3;omega) _,M2.out.far (by show g2≠g3;omega) _,M3'.out,M4.out.far (by show g4≠g3;omega) _,B3.out.setCell (by show w.heap.size≤g3;omega) _⟩
     case measure=>simp[intOf];omega
    ·obtain rfl:k=265:=by omega
     have hle:(dv (digN 1 7 h) 265 265).length=265:=dv_length _ (by omega);have hle2:(ints Z).length=(ints (dv (digN 1 7 h) 265 265)).length:=by rw[ints_length,ints_length,hle,←HZ.out,List.length_replicate]
     have HLE:=hid hle;have HLE2:=hid hle2;clear hle hle2
     go_wp2_with (first
      |((with_reducible refine load_blk 161 (.tmp 5) g3 161 (ints (dv (digN 1 7 h) 265 265)) _ rfl rfl ?_ Tryz.underlying161 ?_ ?_ ?_ ?_);exact K3.out;exact rfl;exact size265 _ HLE.out;exact rfl)
      |((with_reducible refine store_blk 161 (.tmp 4) (.tmp 60) g2 161 (ints Z) (ints (dv (digN 1 7 h) 265 265)) rfl rfl ?_ ?_ ?_ ?_ ?_ ?_ ?_);exact K2.out;exact HLE2.out;exact size265 _ HLE.out;exact ints_one _;exact rfl;exact rfl))
     exact ret_blk (p:=4) (ty:=161) rfl rfl g2 161 _ _ rfl (K2.out.setRow _) Tryz.underlying161 rfl (size265 _ HLE.out) ⟨rfl,below_setRow BW.out (by omega) _⟩
set_option maxHeartbeats 1000000 in
theorem digits_2 (h:List Nat) (w:World) (hl:h.length=32) (hb:Bytes h):
  Calls Tryz.prog 115 #[.agg #[.int .u64 3,.int .i64 4,.int .i64 67,.int .i64 4],.agg (u8s h).toArray] w λe w'=>e= .returned (.agg (ints (dv (digN 4 4 h) 67 265)).toArray)∧Below w.heap.size w w':=by
 have HL:=hid hl;have HB:=hid hb;clear hl hb;have hz:=(zero_of_info zero265).1;obtain⟨Z,hZ⟩:∃ Z,List.replicate 265 0=Z:=⟨_,rfl⟩;rw[hZ] at hz;have HZ:=hid hZ;clear hZ
 go_enter Tryz.func115,Tryz.ntmps115
 go_wp2
 refine world_is (λW=>Blk W w.heap.size 156 (kv (kd 2))∧Blk W (w.heap.size+1) 23 (u8s h)∧Blk W (w.heap.size+1+1) 161 (ints Z)∧Blk W (w.heap.size+1+1+1) 161 (ints Z)∧Blk W (w.heap.size+1+1+1+1) 185 (u8s (List.replicate 34 0))∧Below w.heap.size w W)
  ⟨((((Blk.new _ _ (kv (kd 2))).alloc _).alloc _).alloc _).alloc _,((((Blk.new2 _ _ _ (u8s h)).alloc _).alloc _).alloc _),((blk_at (by simp) _ _ (ints Z)).alloc _).alloc _,(blk_at (by simp) _ _ (ints Z)).alloc _,blk_at (by simp) _ _ (u8s (List.replicate 34 0)),(((((Below.refl _ _).alloc (Nat.le_refl _) _).alloc (by simp) _).alloc (by simp;omega) _).alloc (by simp;omega) _).alloc (by simp;omega) _⟩ ?_
 rintro W ⟨k0,k1,k2,k3,k4,bW⟩
 obtain⟨g1,hg1⟩:∃ g,w.heap.size+1=g:=⟨_,rfl⟩;rw[hg1] at k1 k2 k3 k4 ⊢;obtain⟨g2,hg2⟩:∃ g,g1+1=g:=⟨_,rfl⟩;rw[hg2] at k2 k3 k4 ⊢;obtain⟨g3,hg3⟩:∃ g,g2+1=g:=⟨_,rfl⟩;rw[hg3] at k3 k4 ⊢;obtain⟨g4,hg4⟩:∃ g,g3+1=g:=⟨_,rfl⟩;rw[hg4] at k4 ⊢;have l1:w.heap.size<g1:=by omega
 have l2:g1<g2:=by omega
 have l3:g2<g3:=by omega
 have l4:g3<g4:=by omega
 clear hg1 hg2 hg3 hg4;have K0:=hid k0;have K1:=hid k1;have K2:=hid k2;have K3:=hid k3;have BW:=hid bW;have K4:=hid (show Blk W.drew g4 185 ([]++(u8s (List.replicate 32 0)++u8s [0,0])) from k4);clear k0 k1 k2 k3 k4 bW;refine wp_region_still_tail 2 (by kernel_rfl) (by kernel_rfl) ?_;simp only[List.take_succ_cons,List.take_zero,List.drop_succ_cons,List.drop_zero]
 repeat (refine wpStill_step (λK hK=>?_);go_simp;(try go_bits);refine hK _ ?_;clear hK K)
 refine wpStill_nil ?_;have hlen:(u8s (List.replicate 32 0)).length=(u8s h).length:=by rw[u8s_length,u8s_length,HL.out,List.length_replicate]
 have hlen2:(u8s h).length=32:=by rw[u8s_length,HL.out]
 have HLEN:=hid hlen;have HLEN2:=hid hlen2;clear hlen hlen2;refine copy_part (.tmp 11) (.tmp 12) 25 25 5 g4 0 34 34 32 32 32 (some ⟨g4,0,none⟩) (some ⟨g1,0,none⟩) 185 [] (u8s (List.replicate 32 0)) (u8s [0,0]) (u8s h) rfl rfl Tryz.underlying25 byte_size K4.out rfl HLEN.out HLEN2.out rfl rfl (λ_=>⟨rfl,_,rfl,λj v hv=>by rw[Addr.add_mid,Nat.zero_add];exact(K1.out.drew.cell j).trans hv⟩) (u8s_each _) HLEN2.out ?_;intro w2 a1 a2 a3;have bt:=a2.out;have K0':=hid (K0.out.drew.but bt K0.out.lt (by omega));have K2':=hid (K2.out.drew.but bt K2.out.lt (by omega));have K3':=hid (K3.out.drew.but bt K3.out.lt (by omega));have B2:=hid (BW.out.drew.trans (bt.below (by omega) BW.out.size));have K4':=hid (show Blk w2 g4 185 (u8s (h++[0,0])) by rw[u8s_app];exact a1.out);clear a1 a2 a3 bt K0 K1 K2 K3 K4 BW;have c0:w2.cell? ⟨w.heap.size,1,none⟩=some (.int .i64 4):=K0'.out.cell 1;go_wp2_with fail
 have topc:∀ W,Calls Tryz.prog 121 #[.agg (kv (kd 2)).toArray] W λe w'=>e= .returned (.int .i64 15)∧Below W.heap.size W w':=λW=>top_t 2 (by omega) W
 have TOPC:=hid topc;clear c0 topc
 go_loopw [7,18] (λs i wr=>∃ k:Nat,k≤64∧i= .int .i64 k∧s= .int .i64 ((sumN 4 h k:Nat):Int)∧Blk wr w.heap.size 156 (kv (kd 2))∧Blk wr g2 161 (ints Z)∧Blk wr g3 161 (ints (dv (digN 4 4 h) k 265))∧Blk wr g4 185 (u8s (h++[0,0]))∧Below w.heap.size w wr) (λ_ i _=>64- (intOf i).toNat)
 case atStart=>exact⟨0,by omega,rfl,rfl,K0'.out,K2'.out,by have:=K3'.out;rw[←HZ.out] at this;exact this,K4'.out,B2.out⟩
 case round=>
  clear K0' K2' K3' K4' B2;obtain⟨k,hk,rfl,rfl,k0,k2,k3,k4,bw⟩:=hrel
  by_cases hlt:k<64
  ·have K0:=hid k0;have K2:=hid k2;have K3:=hid k3;have K4:=hid k4;have BW:=hid bw;clear k0 k2 k3 k4 bw;have i1:(k:Int)<265:=by omega
   have hlen3:(dv (digN 4 4 h) k 265).length=265:=dv_length _ (by omega);obtain⟨c,hc⟩:∃ c,coefN 4 (h++[0,0]) k=c:=⟨_,rfl⟩;have c1:c≤15:=by rw[←hc];exact Nat.le_of_lt_succ (coefN_lt 4 _ _)
   have hcd:digN 4 4 h k=c:=by rw[←hc,digN_own 4 4 (by decide) h HL.out k (by simpa using hlt),coefN_app 4 (by decide) h _ k HL.out (by simpa using hlt)]
   have HLEN3:=hid hlen3;have HC:=hid hc;have HCD:=hid hcd;clear hlen3 hc hcd
   go_wp2_with (first
    |((with_reducible refine load_blk 156 (.tmp 2) w.heap.size 156 (kv (kd 2)) _ rfl rfl ?_ Tryz.underlying156 ?_ ?_ ?_ ?_);exact K0.out;exact rfl;exact kv_size _;exact rfl)
    |((with_reducible refine load_blk 185 (.tmp 6) g4 185 (u8s (h++[0,0])) _ rfl rfl ?_ Tryz.underlying185 ?_ ?_ ?_ ?_);exact K4.out;exact rfl;exact size34 _ (by rw[List.length_append,HL.out];rfl);exact rfl)
    |fail)
   refine(coef_t 2 (by omega) (h++[0,0]) k wr (by rw[List.length_append,HL.out];rfl) (app_bytes HB.out (sl_bytes (by decide))) (by show k<34 * (8 / 4);omega)).mono ?_
   rintro e w3 ⟨rfl,b3⟩
   rw[show coefN (kd 2).w (h++[0,0]) k=c from HC.out];have M0:=hid (K0.out.below b3 K0.out.lt);have M2:=hid (K2.out.below b3 K2.out.lt);have M3:=hid (K3.out.below b3 K3.out.lt);have M4:=hid (K4.out.below b3 K4.out.lt);have B3:=hid (BW.out.trans (b3.mono BW.out.size));clear b3;have cv:w3.cell? ⟨g3,k,none⟩=some (.int .i64 ((gt (dv (digN 4 4 h) k 265) k:Nat):Int)):=by rw[M3.out.cell,ints_get _ _ (by rw[HLEN3.out];omega)]
   have cf:=M3.out.frozen k;go_wp2_with fail
   clear cv cf;have m3:=M3.out.store k (.int .i64 (c:Int));rw[ints_set,show(dv (digN 4 4 h) k 265).set k c=dv (digN 4 4 h) (k+1) 265 from by rw[←HCD.out,dv_set _ (by omega)]] at m3;have B4:=hid (B3.out.setCell (p:=⟨g3,k,none⟩) (by show w.heap.size≤g3;omega) (.int .i64 (c:Int)));have M0':=hid (M0.out.far (p:=⟨g3,k,none⟩) (by show w.heap.size≠g3;omega) (.int .i64 (c:Int)));have M2':=hid (M2.out.far (p:=⟨g3,k,none⟩) (by show g2≠g3;omega) (.int .i64 (c:Int)));have M4':=hid (M4.out.far (p:=⟨g3,k,none⟩) (by show g4≠g3;omega) (.int .i64 (c:Int)));have M3':=hid m3;clear m3;refine world_is (λW=>Blk W w.heap.size 156 (kv (kd 2))∧Blk W g2 161 (ints Z)∧Blk W g3 161 (ints (dv (digN 4 4 h) (k+1) 265))∧Blk W g4 185 (u8s (h++[0,0]))∧Below w.heap.size w W) ⟨M0'.out,M2'.out,M3'.out,M4'.out,B4.out⟩ ?_;clear M0 M2 M3 M4 M0' M2' M3' M4' B3 B4 K0 K2 K3 K4 BW
   rintro w4 ⟨k0,k2,k3,k4,bw⟩
   have rk:w4.drew.rangeAt w.heap.size 0 (kv (kd 2))∧w4.drew.cell? ⟨g3,k,none⟩=some (.int .i64 (c:Int)):=⟨range_of_blk k0.drew,by
    rw[k3.drew.cell,ints_get _ _ (by rw[dv_length _ (by omega)];omega),dv_get _ (by omega),HCD.out]⟩
   have K0:=hid k0.drew;have K2:=hid k2.drew;have K3:=hid k3.drew;have K4:=hid k4.drew;have BW:=hid bw.drew;obtain⟨d,hd⟩:∃ d,15-c=d:=⟨_,rfl⟩;have hsu:=sumN_le 4 h k;obtain⟨s,hs⟩:∃ s,sumN 4 h k=s:=⟨_,rfl⟩;rw[hs] at hsu ⊢;have e1:IntKind.i64.wrap (15- (c:Int))=(d:Int):=by rw[show(15:Int) - (c:Int)=(d:Int) from by omega];exact IntWalk.i64_in _ (by omega)
   obtain⟨t,ht⟩:∃ t,s+d=t:=⟨_,rfl⟩;have e2:IntKind.i64.wrap ((s:Int)+(d:Int))=(t:Int):=by rw[show(s:Int)+(d:Int)=(t:Int) from by omega];exact IntWalk.i64_in _ (by simp at hsu;omega)
   have HT:=hid (show sumN 4 h (k+1)=t by
    rw[sumN,hs,←coefN_app 4 (by decide) h [0,0] k HL.out (by simpa using hlt),HC.out,←ht,←hd])
   clear k0 k2 k3 k4 bw hd hs ht hsu;refine wp_region_held (S:=λV=>V.rangeAt w.heap.size 0 (kv (kd 2))∧V.cell? ⟨g3,k,none⟩=some (.int .i64 (c:Int))) (by kernel_rfl) ?_;change wpAnyH _ _ _ _ _ _ _ _ w4.drew;refine tka9 0 rk ?_;refine tkg9 1 (v:= .agg (kv (kd 2)).toArray) (yieldsIf_load_mid (by kernel_rfl) 156 (.tmp 2) rfl w.heap.size 0 (by go_simp) (kv (kd 2)) _ (λ_ h=>h.1) Tryz.underlying156 rfl (kv_size _)) rk ?_;refine tka9 3 rk ?_;refine tka9 4 rk ?_;refine tk9 5 ?_ ?_ rk ?_;rotate_left 1
   ·(intro w hS;have hs:=hS.2;clear hS;go_simp;try (with_reducible rfl))
   refine rd9 2 λK hK=>?_
   go_simp;refine(TOPC.out w4.drew).mono ?_
   rintro e w5 ⟨rfl,b5⟩
   have M0:=hid (K0.out.below b5 K0.out.lt);have M2:=hid (K2.out.below b5 K2.out.lt);have M3:=hid (K3.out.below b5 K3.out.lt);have M4:=hid (K4.out.below b5 K4.out.lt);have B5:=hid (BW.out.trans (b5.mono BW.out.size));have r5:w5.rangeAt w.heap.size 0 (kv (kd 2))∧w5.cell? ⟨g3,k,none⟩=some (.int .i64 (c:Int)):=⟨range_of_blk M0.out,(b5.cell (p:=⟨g3,k,none⟩) K3.out.lt).trans rk.2⟩;clear b5 rk K0 K2 K3 K4 BW;refine hK.out _ _ r5 (λ_=>?_);clear hK K;refine tka9 6 r5 ?_;refine tka9 7 r5 ?_;refine tka9 8 r5 ?_;refine wpAnyH_done (by kernel_rfl) ?_ _;go_simp;clear e1 e2 r5;go_wp2_with fail
   go_roundw
   case rel=>exact⟨k+1,by omega,by go_num,by rw[HT.out],M0.out,M2.out,M3.out,M4.out,B5.out⟩
   case measure=>simp[intOf];omega
  ·obtain rfl:k=64:=by omega
   rw[show((64:Nat):Int)=64 from rfl];have K0:=hid k0;have K2:=hid k2;have K3:=hid k3;have K4:=hid k4;have BW:=hid bw;have hsu:=sumN_le 4 h 64;have c3:wr.cell? ⟨w.heap.size,3,none⟩=some (.int .i64 4):=k0.cell 3;have f32:=k4.frozen 32;have f33:=k4.frozen 33;have h32:wr.cell? ⟨g4,32,none⟩=some (.int .u8 0):=by
    rw[k4.cell,u8s_get _ _ (by rw[List.length_append,HL.out];decide),gt_app_right (by rw[HL.out];decide),HL.out];rfl
   have h33:wr.cell? ⟨g4,33,none⟩=some (.int .u8 0):=by
    rw[k4.cell,u8s_get _ _ (by rw[List.length_append,HL.out];decide),gt_app_right (by rw[HL.out];decide),HL.out];rfl
   obtain⟨s,hs⟩:∃ s,sumN 4 h 64=s:=⟨_,rfl⟩;rw[hs] at hsu ⊢;have s1:(s:Int)≤8160:=by simp at hsu;omega
   have HS:=hid hs;clear hlt hk k0 k2 k3 k4 bw hs hsu;go_wp2_with fail
   have m4:=(K4.out.store 32 (.int .u8 ((s:Int) * 16 / 256 % 256))).store 33 (.int .u8 ((s:Int) * 16 % 256));rw[show((s:Int) * 16 / 256 % 256)=((s * 2 ^ 4 / 256 % 256:Nat):Int) from by omega,show((s:Int) * 16 % 256)=((s * 2 ^ 4 % 256:Nat):Int) from by omega,u8s_set,u8s_set,set_32 h HL.out,show h++[s * 2 ^ 4 / 256 % 256,s * 2 ^ 4 % 256]=extN 4 4 h from by unfold extN cksN;rw[show 256 / 4=64 from rfl,HS.out]] at m4;refine world_is (λW=>Blk W w.heap.size 156 (kv (kd 2))∧Blk W g2 161 (ints Z)∧Blk W g3 161 (ints (dv (digN 4 4 h) 64 265))∧Blk W g4 185 (u8s (extN 4 4 h))∧Below w.heap.size w W)
    ⟨(K0.out.far (by show w.heap.size≠g4;omega) _).far (by show w.heap.size≠g4;omega) _,(K2.out.far (by show g2≠g4;omega) _).far (by show g2≠g4;omega) _,(K3.out.far (by show g3≠g4;omega) _).far (by show g3≠g4;omega) _,by
     have v1:((s * 2 ^ 4 / 256 % 256:Nat):Int)=(s:Int) * 16 / 256 % 256:=by omega
     have v2:((s * 2 ^ 4 % 256:Nat):Int)=(s:Int) * 16 % 256:=by omega
     rw[v1,v2] at m4;exact m4,(BW.out.setCell (by show w.heap.size≤g4;omega) _).setCell (by show w.heap.size≤g4;omega) _⟩ ?_
   clear m4 K0 K2 K3 K4 BW c3 f32 f33 h32 h33 s1 HS
   rintro w4 ⟨k0,k2,k3,k4,bw⟩
   have K0:=hid k0;have K2:=hid k2;have K3:=hid k3;have K4:=hid k4;have BW:=hid bw;clear k0 k2 k3 k4 bw
   go_loopw [10] (λi wr=>∃ k:Nat,64≤k∧k≤67∧i= .int .i64 k∧Blk wr w.heap.size 156 (kv (kd 2))∧Blk wr g2 161 (ints Z)∧Blk wr g3 161 (ints (dv (digN 4 4 h) k 265))∧Blk wr g4 185 (u8s (extN 4 4 h))∧Below w.heap.size w wr) (λi _=>67- (intOf i).toNat)
   case atStart=>exact⟨64,by omega,by omega,rfl,K0.out,K2.out,K3.out,K4.out,BW.out⟩
   case round=>
    clear K0 K2 K3 K4 BW;obtain⟨k,hk1,hk2,rfl,k0,k2,k3,k4,bw⟩:=hrel;have K0:=hid k0;have K2:=hid k2;have K3:=hid k3;have K4:=hid k4;have BW:=hid bw;have c2:wr.cell? ⟨w.heap.size,2,none⟩=some (.int .i64 67):=k0.cell 2;clear k0 k2 k3 k4 bw
    by_cases hlt:k<67
    ·have i1:(k:Int)<265:=by omega
     have i2:(k:Int)<67:=by omega
     have hlen3:(dv (digN 4 4 h) k 265).length=265:=dv_length _ (by omega);have HLEN3:=hid hlen3;clear hlen3
     go_wp2_with (first
      |((with_reducible refine load_blk 156 (.tmp 2) w.heap.size 156 (kv (kd 2)) _ rfl rfl ?_ Tryz.underlying156 ?_ ?_ ?_ ?_);exact K0.out;exact rfl;exact kv_size _;exact rfl)
      |((with_reducible refine load_blk 185 (.tmp 6) g4 185 (u8s (extN 4 4 h)) _ rfl rfl ?_ Tryz.underlying185 ?_ ?_ ?_ ?_);exact K4.out;exact rfl;exact size34 _ (extN_length _ _ _ HL.out);exact rfl)
      |fail)
     refine(coef_t 2 (by omega) (extN 4 4 h) k wr (extN_length _ _ _ HL.out) (extN_bytes _ _ _ HB.out) (by show k<34 * (8 / 4);omega)).mono ?_
     rintro e w3 ⟨rfl,b3⟩
     rw[show coefN (kd 2).w (extN 4 4 h) k=digN 4 4 h k from rfl];have M0:=hid (K0.out.below b3 K0.out.lt);have M2:=hid (K2.out.below b3 K2.out.lt);have M3:=hid (K3.out.below b3 K3.out.lt);have M4:=hid (K4.out.below b3 K4.out.lt);have B3:=hid (BW.out.trans (b3.mono BW.out.size));clear b3 K0 K2 K3 K4 BW;have cv:w3.cell? ⟨g3,k,none⟩=some (.int .i64 ((gt (dv (digN 4 4 h) k 265) k:Nat):Int)):=by rw[M3.out.cell,ints_get _ _ (by rw[HLEN3.out];omega)]
     have cf:=M3.out.frozen k;go_wp2_with fail
     clear cv cf;have m3:=M3.out.store k (.int .i64 ((digN 4 4 h k:Nat):Int));rw[ints_set,dv_set _ (by omega)] at m3;have M3':=hid m3;clear m3
     go_roundw
     case rel=>exact⟨k+1,by omega,by omega,by go_num,M0.out.far (by show w.heap.size≠g3;omega) _,M2.out.far (by show g2≠g3;omega) _,M3'.out,M4.out.far (by show g4≠g3;omega) _,B3.out.setCell (by show w.heap.size≤g3;omega) _⟩
     case measure=>simp[intOf];omega
    ·obtain rfl:k=67:=by omega
     have hle:(dv (digN 4 4 h) 67 265).length=265:=dv_length _ (by omega);have hle2:(ints Z).length=(ints (dv (digN 4 4 h) 67 265)).length:=by rw[ints_length,ints_length,hle,←HZ.out,List.length_replicate]
     have HLE:=hid hle;have HLE2:=hid hle2;clear hle hle2
     go_wp2_with (first
      |((with_reducible refine load_blk 161 (.tmp 5) g3 161 (ints (dv (digN 4 4 h) 67 265)) _ rfl rfl ?_ Tryz.underlying161 ?_ ?_ ?_ ?_);exact K3.out;exact rfl;exact size265 _ HLE.out;exact rfl)
      |((with_reducible refine store_blk 161 (.tmp 4) (.tmp 60) g2 161 (ints Z) (ints (dv (digN 4 4 h) 67 265)) rfl rfl ?_ ?_ ?_ ?_ ?_ ?_ ?_);exact K2.out;exact HLE2.out;exact size265 _ HLE.out;exact ints_one _;exact rfl;exact rfl))
     exact ret_blk (p:=4) (ty:=161) rfl rfl g2 161 _ _ rfl (K2.out.setRow _) Tryz.underlying161 rfl (size265 _ HLE.out) ⟨rfl,below_setRow BW.out (by omega) _⟩
set_option maxHeartbeats 1000000 in
theorem digits_3 (h:List Nat) (w:World) (hl:h.length=32) (hb:Bytes h):
  Calls Tryz.prog 115 #[.agg #[.int .u64 4,.int .i64 8,.int .i64 34,.int .i64 0],.agg (u8s h).toArray] w λe w'=>e= .returned (.agg (ints (dv (digN 8 0 h) 34 265)).toArray)∧Below w.heap.size w w':=by
 have HL:=hid hl;have HB:=hid hb;clear hl hb;have hz:=(zero_of_info zero265).1;obtain⟨Z,hZ⟩:∃ Z,List.replicate 265 0=Z:=⟨_,rfl⟩;rw[hZ] at hz;have HZ:=hid hZ;clear hZ
 go_enter Tryz.func115,Tryz.ntmps115
 go_wp2
 refine world_is (λW=>Blk W w.heap.size 156 (kv (kd 3))∧Blk W (w.heap.size+1) 23 (u8s h)∧Blk W (w.heap.size+1+1) 161 (ints Z)∧Blk W (w.heap.size+1+1+1) 161 (ints Z)∧Blk W (w.heap.size+1+1+1+1) 185 (u8s (List.replicate 34 0))∧Below w.heap.size w W)
  ⟨((((Blk.new _ _ (kv (kd 3))).alloc _).alloc _).alloc _).alloc _,((((Blk.new2 _ _ _ (u8s h)).alloc _).alloc _).alloc _),((blk_at (by simp) _ _ (ints Z)).alloc _).alloc _,(blk_at (by simp) _ _ (ints Z)).alloc _,blk_at (by simp) _ _ (u8s (List.replicate 34 0)),(((((Below.refl _ _).alloc (Nat.le_refl _) _).alloc (by simp) _).alloc (by simp;omega) _).alloc (by simp;omega) _).alloc (by simp;omega) _⟩ ?_
 rintro W ⟨k0,k1,k2,k3,k4,bW⟩
 obtain⟨g1,hg1⟩:∃ g,w.heap.size+1=g:=⟨_,rfl⟩;rw[hg1] at k1 k2 k3 k4 ⊢;obtain⟨g2,hg2⟩:∃ g,g1+1=g:=⟨_,rfl⟩;rw[hg2] at k2 k3 k4 ⊢;obtain⟨g3,hg3⟩:∃ g,g2+1=g:=⟨_,rfl⟩;rw[hg3] at k3 k4 ⊢;obtain⟨g4,hg4⟩:∃ g,g3+1=g:=⟨_,rfl⟩;rw[hg4] at k4 ⊢;have l1:w.heap.size<g1:=by omega
 have l2:g1<g2:=by omega
 have l3:g2<g3:=by omega
 have l4:g3<g4:=by omega
 clear hg1 hg2 hg3 hg4;have K0:=hid k0;have K1:=hid k1;have K2:=hid k2;have K3:=hid k3;have BW:=hid bW;have K4:=hid (show Blk W.drew g4 185 ([]++(u8s (List.replicate 32 0)++u8s [0,0])) from k4);clear k0 k1 k2 k3 k4 bW;refine wp_region_still_tail 2 (by kernel_rfl) (by kernel_rfl) ?_;simp only[List.take_succ_cons,List.take_zero,List.drop_succ_cons,List.drop_zero]
 repeat (refine wpStill_step (λK hK=>?_);go_simp;(try go_bits);refine hK _ ?_;clear hK K)
 refine wpStill_nil ?_;have hlen:(u8s (List.replicate 32 0)).length=(u8s h).length:=by rw[u8s_length,u8s_length,HL.out,List.length_replicate]
 have hlen2:(u8s h).length=32:=by rw[u8s_length,HL.out]
 have HLEN:=hid hlen;have HLEN2:=hid hlen2;clear hlen hlen2;refine copy_part (.tmp 11) (.tmp 12) 25 25 5 g4 0 34 34 32 32 32 (some ⟨g4,0,none⟩) (some ⟨g1,0,none⟩) 185 [] (u8s (List.replicate 32 0)) (u8s [0,0]) (u8s h) rfl rfl Tryz.underlying25 byte_size K4.out rfl HLEN.out HLEN2.out rfl rfl (λ_=>⟨rfl,_,rfl,λj v hv=>by rw[Addr.add_mid,Nat.zero_add];exact(K1.out.drew.cell j).trans hv⟩) (u8s_each _) HLEN2.out ?_;intro w2 a1 a2 a3;have bt:=a2.out;have K0':=hid (K0.out.drew.but bt K0.out.lt (by omega));have K2':=hid (K2.out.drew.but bt K2.out.lt (by omega));have K3':=hid (K3.out.drew.but bt K3.out.lt (by omega));have B2:=hid (BW.out.drew.trans (bt.below (by omega) BW.out.size));have K4':=hid (show Blk w2 g4 185 (u8s (h++[0,0])) by rw[u8s_app];exact a1.out);clear a1 a2 a3 bt K0 K1 K2 K3 K4 BW;have c0:w2.cell? ⟨w.heap.size,1,none⟩=some (.int .i64 8):=K0'.out.cell 1;go_wp2_with fail
 have topc:∀ W,Calls Tryz.prog 121 #[.agg (kv (kd 3)).toArray] W λe w'=>e= .returned (.int .i64 255)∧Below W.heap.size W w':=λW=>top_t 3 (by omega) W
 have TOPC:=hid topc;clear c0 topc
 go_loopw [7,18] (λs i wr=>∃ k:Nat,k≤32∧i= .int .i64 k∧s= .int .i64 ((sumN 8 h k:Nat):Int)∧Blk wr w.heap.size 156 (kv (kd 3))∧Blk wr g2 161 (ints Z)∧Blk wr g3 161 (ints (dv (digN 8 0 h) k 265))∧Blk wr g4 185 (u8s (h++[0,0]))∧Below w.heap.size w wr) (λ_ i _=>32- (intOf i).toNat)
 case atStart=>exact⟨0,by omega,rfl,rfl,K0'.out,K2'.out,by have:=K3'.out;rw[←HZ.out] at this;exact this,K4'.out,B2.out⟩
 case round=>
  clear K0' K2' K3' K4' B2;obtain⟨k,hk,rfl,rfl,k0,k2,k3,k4,bw⟩:=hrel
  by_cases hlt:k<32
  ·have K0:=hid k0;have K2:=hid k2;have K3:=hid k3;have K4:=hid k4;have BW:=hid bw;clear k0 k2 k3 k4 bw;have i1:(k:Int)<265:=by omega
   have hlen3:(dv (digN 8 0 h) k 265).length=265:=dv_length _ (by omega);obtain⟨c,hc⟩:∃ c,coefN 8 (h++[0,0]) k=c:=⟨_,rfl⟩;have c1:c≤255:=by rw[←hc];exact Nat.le_of_lt_succ (coefN_lt 8 _ _)
   have hcd:digN 8 0 h k=c:=by rw[←hc,digN_own 8 0 (by decide) h HL.out k (by simpa using hlt),coefN_app 8 (by decide) h _ k HL.out (by simpa using hlt)]
   have HLEN3:=hid hlen3;have HC:=hid hc;have HCD:=hid hcd;clear hlen3 hc hcd
   go_wp2_with (first
    |((with_reducible refine load_blk 156 (.tmp 2) w.heap.size 156 (kv (kd 3)) _ rfl rfl ?_ Tryz.underlying156 ?_ ?_ ?_ ?_);exact K0.out;exact rfl;exact kv_size _;exact rfl)
    |((with_reducible refine load_blk 185 (.tmp 6) g4 185 (u8s (h++[0,0])) _ rfl rfl ?_ Tryz.underlying185 ?_ ?_ ?_ ?_);exact K4.out;exact rfl;exact size34 _ (by rw[List.length_append,HL.out];rfl);exact rfl)
    |fail)
   refine(coef_t 3 (by omega) (h++[0,0]) k wr (by rw[List.length_append,HL.out];rfl) (app_bytes HB.out (sl_bytes (by decide))) (by show k<34 * (8 / 8);omega)).mono ?_
   rintro e w3 ⟨rfl,b3⟩
   rw[show coefN (kd 3).w (h++[0,0]) k=c from HC.out];have M0:=hid (K0.out.below b3 K0.out.lt);have M2:=hid (K2.out.below b3 K2.out.lt);have M3:=hid (K3.out.below b3 K3.out.lt);have M4:=hid (K4.out.below b3 K4.out.lt);have B3:=hid (BW.out.trans (b3.mono BW.out.size));clear b3;have cv:w3.cell? ⟨g3,k,none⟩=some (.int .i64 ((gt (dv (digN 8 0 h) k 265) k:Nat):Int)):=by rw[M3.out.cell,ints_get _ _ (by rw[HLEN3.out];omega)]
   have cf:=M3.out.frozen k;go_wp2_with fail
   clear cv cf;have m3:=M3.out.store k (.int .i64 (c:Int));rw[ints_set,show(dv (digN 8 0 h) k 265).set k c=dv (digN 8 0 h) (k+1) 265 from by rw[←HCD.out,dv_set _ (by omega)]] at m3;have B4:=hid (B3.out.setCell (p:=⟨g3,k,none⟩) (by show w.heap.size≤g3;omega) (.int .i64 (c:Int)));have M0':=hid (M0.out.far (p:=⟨g3,k,none⟩) (by show w.heap.size≠g3;omega) (.int .i64 (c:Int)));have M2':=hid (M2.out.far (p:=⟨g3,k,none⟩) (by show g2≠g3;omega) (.int .i64 (c:Int)));have M4':=hid (M4.out.far (p:=⟨g3,k,none⟩) (by show g4≠g3;omega) (.int .i64 (c:Int)));have M3':=hid m3;clear m3;refine world_is (λW=>Blk W w.heap.size 156 (kv (kd 3))∧Blk W g2 161 (ints Z)∧Blk W g3 161 (ints (dv (digN 8 0 h) (k+1) 265))∧Blk W g4 185 (u8s (h++[0,0]))∧Below w.heap.size w W) ⟨M0'.out,M2'.out,M3'.out,M4'.out,B4.out⟩ ?_;clear M0 M2 M3 M4 M0' M2' M3' M4' B3 B4 K0 K2 K3 K4 BW
   rintro w4 ⟨k0,k2,k3,k4,bw⟩
   have rk:w4.drew.rangeAt w.heap.size 0 (kv (kd 3))∧w4.drew.cell? ⟨g3,k,none⟩=some (.int .i64 (c:Int)):=⟨range_of_blk k0.drew,by
    rw[k3.drew.cell,ints_get _ _ (by rw[dv_length _ (by omega)];omega),dv_get _ (by omega),HCD.out]⟩
   have K0:=hid k0.drew;have K2:=hid k2.drew;have K3:=hid k3.drew;have K4:=hid k4.drew;have BW:=hid bw.drew;obtain⟨d,hd⟩:∃ d,255-c=d:=⟨_,rfl⟩;have hsu:=sumN_le 8 h k;obtain⟨s,hs⟩:∃ s,sumN 8 h k=s:=⟨_,rfl⟩;rw[hs] at hsu ⊢;have e1:IntKind.i64.wrap (255- (c:Int))=(d:Int):=by rw[show(255:Int) - (c:Int)=(d:Int) from by omega];exact IntWalk.i64_in _ (by omega)
   obtain⟨t,ht⟩:∃ t,s+d=t:=⟨_,rfl⟩;have e2:IntKind.i64.wrap ((s:Int)+(d:Int))=(t:Int):=by rw[show(s:Int)+(d:Int)=(t:Int) from by omega];exact IntWalk.i64_in _ (by simp at hsu;omega)
   have HT:=hid (show sumN 8 h (k+1)=t by
    rw[sumN,hs,←coefN_app 8 (by decide) h [0,0] k HL.out (by simpa using hlt),HC.out,←ht,←hd])
   clear k0 k2 k3 k4 bw hd hs ht hsu;refine wp_region_held (S:=λV=>V.rangeAt w.heap.size 0 (kv (kd 3))∧V.cell? ⟨g3,k,none⟩=some (.int .i64 (c:Int))) (by kernel_rfl) ?_;change wpAnyH _ _ _ _ _ _ _ _ w4.drew;refine tka9 0 rk ?_;refine tkg9 1 (v:= .agg (kv (kd 3)).toArray) (yieldsIf_load_mid (by kernel_rfl) 156 (.tmp 2) rfl w.heap.size 0 (by go_simp) (kv (kd 3)) _ (λ_ h=>h.1) Tryz.underlying156 rfl (kv_size _)) rk ?_;refine tka9 3 rk ?_;refine tka9 4 rk ?_;refine tk9 5 ?_ ?_ rk ?_;rotate_left 1
   ·(intro w hS;have hs:=hS.2;clear hS;go_simp;try (with_reducible rfl))
   refine rd9 2 λK hK=>?_
   go_simp;refine(TOPC.out w4.drew).mono ?_
   rintro e w5 ⟨rfl,b5⟩
   have M0:=hid (K0.out.below b5 K0.out.lt);have M2:=hid (K2.out.below b5 K2.out.lt);have M3:=hid (K3.out.below b5 K3.out.lt);have M4:=hid (K4.out.below b5 K4.out.lt);have B5:=hid (BW.out.trans (b5.mono BW.out.size));have r5:w5.rangeAt w.heap.size 0 (kv (kd 3))∧w5.cell? ⟨g3,k,none⟩=some (.int .i64 (c:Int)):=⟨range_of_blk M0.out,(b5.cell (p:=⟨g3,k,none⟩) K3.out.lt).trans rk.2⟩;clear b5 rk K0 K2 K3 K4 BW;refine hK.out _ _ r5 (λ_=>?_);clear hK K;refine tka9 6 r5 ?_;refine tka9 7 r5 ?_;refine tka9 8 r5 ?_;refine wpAnyH_done (by kernel_rfl) ?_ _;go_simp;clear e1 e2 r5;go_wp2_with fail
   go_roundw
   case rel=>exact⟨k+1,by omega,by go_num,by rw[HT.out],M0.out,M2.out,M3.out,M4.out,B5.out⟩
   case measure=>simp[intOf];omega
  ·obtain rfl:k=32:=by omega
   rw[show((32:Nat):Int)=32 from rfl];have K0:=hid k0;have K2:=hid k2;have K3:=hid k3;have K4:=hid k4;have BW:=hid bw;have hsu:=sumN_le 8 h 32;have c3:wr.cell? ⟨w.heap.size,3,none⟩=some (.int .i64 0):=k0.cell 3;have f32:=k4.frozen 32;have f33:=k4.frozen 33;have h32:wr.cell? ⟨g4,32,none⟩=some (.int .u8 0):=by
    rw[k4.cell,u8s_get _ _ (by rw[List.length_append,HL.out];decide),gt_app_right (by rw[HL.out];decide),HL.out];rfl
   have h33:wr.cell? ⟨g4,33,none⟩=some (.int .u8 0):=by
    rw[k4.cell,u8s_get _ _ (by rw[List.length_append,HL.out];decide),gt_app_right (by rw[HL.out];decide),HL.out];rfl
   obtain⟨s,hs⟩:∃ s,sumN 8 h 32=s:=⟨_,rfl⟩;rw[hs] at hsu ⊢;have s1:(s:Int)≤8160:=by simp at hsu;omega
   have HS:=hid hs;clear hlt hk k0 k2 k3 k4 bw hs hsu;go_wp2_with fail
   have m4:=(K4.out.store 32 (.int .u8 ((s:Int) / 256))).store 33 (.int .u8 ((s:Int) % 256));rw[show((s:Int) / 256)=((s * 2 ^ 0 / 256 % 256:Nat):Int) from by omega,show((s:Int) % 256)=((s * 2 ^ 0 % 256:Nat):Int) from by omega,u8s_set,u8s_set,set_32 h HL.out,show h++[s * 2 ^ 0 / 256 % 256,s * 2 ^ 0 % 256]=extN 8 0 h from by unfold extN cksN;rw[show 256 / 8=32 from rfl,HS.out]] at m4;refine world_is (λW=>Blk W w.heap.size 156 (kv (kd 3))∧Blk W g2 161 (ints Z)∧Blk W g3 161 (ints (dv (digN 8 0 h) 32 265))∧Blk W g4 185 (u8s (extN 8 0 h))∧Below w.heap.size w W)
    ⟨(K0.out.far (by show w.heap.size≠g4;omega) _).far (by show w.heap.size≠g4;omega) _,(K2.out.far (by show g2≠g4;omega) _).far (by show g2≠g4;omega) _,(K3.out.far (by show g3≠g4;omega) _).far (by show g3≠g4;omega) _,by
     have v1:((s * 2 ^ 0 / 256 % 256:Nat):Int)=(s:Int) / 256:=by omega
     have v2:((s * 2 ^ 0 % 256:Nat):Int)=(s:Int) % 256:=by omega
     rw[v1,v2] at m4;exact m4,(BW.out.setCell (by show w.heap.size≤g4;omega) _).setCell (by show w.heap.size≤g4;omega) _⟩ ?_
   clear m4 K0 K2 K3 K4 BW c3 f32 f33 h32 h33 s1 HS
   rintro w4 ⟨k0,k2,k3,k4,bw⟩
   have K0:=hid k0;have K2:=hid k2;have K3:=hid k3;have K4:=hid k4;have BW:=hid bw;clear k0 k2 k3 k4 bw
   go_loopw [10] (λi wr=>∃ k:Nat,32≤k∧k≤34∧i= .int .i64 k∧Blk wr w.heap.size 156 (kv (kd 3))∧Blk wr g2 161 (ints Z)∧Blk wr g3 161 (ints (dv (digN 8 0 h) k 265))∧Blk wr g4 185 (u8s (extN 8 0 h))∧Below w.heap.size w wr) (λi _=>34- (intOf i).toNat)
   case atStart=>exact⟨32,by omega,by omega,rfl,K0.out,K2.out,K3.out,K4.out,BW.out⟩
   case round=>
    clear K0 K2 K3 K4 BW;obtain⟨k,hk1,hk2,rfl,k0,k2,k3,k4,bw⟩:=hrel;have K0:=hid k0;have K2:=hid k2;have K3:=hid k3;have K4:=hid k4;have BW:=hid bw;have c2:wr.cell? ⟨w.heap.size,2,none⟩=some (.int .i64 34):=k0.cell 2;clear k0 k2 k3 k4 bw
    by_cases hlt:k<34
    ·have i1:(k:Int)<265:=by omega
     have i2:(k:Int)<34:=by omega
     have hlen3:(dv (digN 8 0 h) k 265).length=265:=dv_length _ (by omega);have HLEN3:=hid hlen3;clear hlen3
     go_wp2_with (first
      |((with_reducible refine load_blk 156 (.tmp 2) w.heap.size 156 (kv (kd 3)) _ rfl rfl ?_ Tryz.underlying156 ?_ ?_ ?_ ?_);exact K0.out;exact rfl;exact kv_size _;exact rfl)
      |((with_reducible refine load_blk 185 (.tmp 6) g4 185 (u8s (extN 8 0 h)) _ rfl rfl ?_ Tryz.underlying185 ?_ ?_ ?_ ?_);exact K4.out;exact rfl;exact size34 _ (extN_length _ _ _ HL.out);exact rfl)
      |fail)
     refine(coef_t 3 (by omega) (extN 8 0 h) k wr (extN_length _ _ _ HL.out) (extN_bytes _ _ _ HB.out) (by show k<34 * (8 / 8);omega)).mono ?_
     rintro e w3 ⟨rfl,b3⟩
     rw[show coefN (kd 3).w (extN 8 0 h) k=digN 8 0 h k from rfl];have M0:=hid (K0.out.below b3 K0.out.lt);have M2:=hid (K2.out.below b3 K2.out.lt);have M3:=hid (K3.out.below b3 K3.out.lt);have M4:=hid (K4.out.below b3 K4.out.lt);have B3:=hid (BW.out.trans (b3.mono BW.out.size));clear b3 K0 K2 K3 K4 BW;have cv:w3.cell? ⟨g3,k,none⟩=some (.int .i64 ((gt (dv (digN 8 0 h) k 265) k:Nat):Int)):=by rw[M3.out.cell,ints_get _ _ (by rw[HLEN3.out];omega)]
     have cf:=M3.out.frozen k;go_wp2_with fail
     clear cv cf;have m3:=M3.out.store k (.int .i64 ((digN 8 0 h k:Nat):Int));rw[ints_set,dv_set _ (by omega)] at m3;have M3':=hid m3;clear m3
     go_roundw
     case rel=>exact⟨k+1,by omega,by omega,by go_num,M0.out.far (by show w.heap.size≠g3;omega) _,M2.out.far (by show g2≠g3;omega) _,M3'.out,M4.out.far (by show g4≠g3;omega) _,B3.out.setCell (by show w.heap.size≤g3;omega) _⟩
     case measure=>simp[intOf];omega
    ·obtain rfl:k=34:=by omega
     have hle:(dv (digN 8 0 h) 34 265).length=265:=dv_length _ (by omega);have hle2:(ints Z).length=(ints (dv (digN 8 0 h) 34 265)).length:=by rw[ints_length,ints_length,hle,←HZ.out,List.length_replicate]
     have HLE:=hid hle;have HLE2:=hid hle2;clear hle hle2
     go_wp2_with (first
      |((with_reducible refine load_blk 161 (.tmp 5) g3 161 (ints (dv (digN 8 0 h) 34 265)) _ rfl rfl ?_ Tryz.underlying161 ?_ ?_ ?_ ?_);exact K3.out;exact rfl;exact size265 _ HLE.out;exact rfl)
      |((with_reducible refine store_blk 161 (.tmp 4) (.tmp 60) g2 161 (ints Z) (ints (dv (digN 8 0 h) 34 265)) rfl rfl ?_ ?_ ?_ ?_ ?_ ?_ ?_);exact K2.out;exact HLE2.out;exact size265 _ HLE.out;exact ints_one _;exact rfl;exact rfl))
     exact ret_blk (p:=4) (ty:=161) rfl rfl g2 161 _ _ rfl (K2.out.setRow _) Tryz.underlying161 rfl (size265 _ HLE.out) ⟨rfl,below_setRow BW.out (by omega) _⟩
set_option maxHeartbeats 1000000 in
theorem digits_1 (h:List Nat) (w:World) (hl:h.length=32) (hb:Bytes h):
  Calls Tryz.prog 115 #[.agg #[.int .u64 2,.int .i64 2,.int .i64 133,.int .i64 6],.agg (u8s h).toArray] w λe w'=>e= .returned (.agg (ints (dv (digN 2 6 h) 133 265)).toArray)∧Below w.heap.size w w':=by
 have HL:=hid hl;have HB:=hid hb;clear hl hb;have hz:=(zero_of_info zero265).1;obtain⟨Z,hZ⟩:∃ Z,List.replicate 265 0=Z:=⟨_,rfl⟩;rw[hZ] at hz;have HZ:=hid hZ;clear hZ
 go_enter Tryz.func115,Tryz.ntmps115
 go_wp2
 refine world_is (λW=>Blk W w.heap.size 156 (kv (kd 1))∧Blk W (w.heap.size+1) 23 (u8s h)∧Blk W (w.heap.size+1+1) 161 (ints Z)∧Blk W (w.heap.size+1+1+1) 161 (ints Z)∧Blk W (w.heap.size+1+1+1+1) 185 (u8s (List.replicate 34 0))∧Below w.heap.size w W)
  ⟨((((Blk.new _ _ (kv (kd 1))).alloc _).alloc _).alloc _).alloc _,((((Blk.new2 _ _ _ (u8s h)).alloc _).alloc _).alloc _),((blk_at (by simp) _ _ (ints Z)).alloc _).alloc _,(blk_at (by simp) _ _ (ints Z)).alloc _,blk_at (by simp) _ _ (u8s (List.replicate 34 0)),(((((Below.refl _ _).alloc (Nat.le_refl _) _).alloc (by simp) _).alloc (by simp;omega) _).alloc (by simp;omega) _).alloc (by simp;omega) _⟩ ?_
 rintro W ⟨k0,k1,k2,k3,k4,bW⟩
 obtain⟨g1,hg1⟩:∃ g,w.heap.size+1=g:=⟨_,rfl⟩;rw[hg1] at k1 k2 k3 k4 ⊢;obtain⟨g2,hg2⟩:∃ g,g1+1=g:=⟨_,rfl⟩;rw[hg2] at k2 k3 k4 ⊢;obtain⟨g3,hg3⟩:∃ g,g2+1=g:=⟨_,rfl⟩;rw[hg3] at k3 k4 ⊢;obtain⟨g4,hg4⟩:∃ g,g3+1=g:=⟨_,rfl⟩;rw[hg4] at k4 ⊢;have l1:w.heap.size<g1:=by omega
 have l2:g1<g2:=by omega
 have l3:g2<g3:=by omega
 have l4:g3<g4:=by omega
 clear hg1 hg2 hg3 hg4;have K0:=hid k0;have K1:=hid k1;have K2:=hid k2;have K3:=hid k3;have BW:=hid bW;have K4:=hid (show Blk W.drew g4 185 ([]++(u8s (List.replicate 32 0)++u8s [0,0])) from k4);clear k0 k1 k2 k3 k4 bW;refine wp_region_still_tail 2 (by kernel_rfl) (by kernel_rfl) ?_;simp only[List.take_succ_cons,List.take_zero,List.drop_succ_cons,List.drop_zero]
 repeat (refine wpStill_step (λK hK=>?_);go_simp;(try go_bits);refine hK _ ?_;clear hK K)
 refine wpStill_nil ?_;have hlen:(u8s (List.replicate 32 0)).length=(u8s h).length:=by rw[u8s_length,u8s_length,HL.out,List.length_replicate]
 have hlen2:(u8s h).length=32:=by rw[u8s_length,HL.out]
 have HLEN:=hid hlen;have HLEN2:=hid hlen2;clear hlen hlen2;refine copy_part (.tmp 11) (.tmp 12) 25 25 5 g4 0 34 34 32 32 32 (some ⟨g4,0,none⟩) (some ⟨g1,0,none⟩) 185 [] (u8s (List.replicate 32 0)) (u8s [0,0]) (u8s h) rfl rfl Tryz.underlying25 byte_size K4.out rfl HLEN.out HLEN2.out rfl rfl (λ_=>⟨rfl,_,rfl,λj v hv=>by rw[Addr.add_mid,Nat.zero_add];exact(K1.out.drew.cell j).trans hv⟩) (u8s_each _) HLEN2.out ?_;intro w2 a1 a2 a3;have bt:=a2.out;have K0':=hid (K0.out.drew.but bt K0.out.lt (by omega));have K2':=hid (K2.out.drew.but bt K2.out.lt (by omega));have K3':=hid (K3.out.drew.but bt K3.out.lt (by omega));have B2:=hid (BW.out.drew.trans (bt.below (by omega) BW.out.size));have K4':=hid (show Blk w2 g4 185 (u8s (h++[0,0])) by rw[u8s_app];exact a1.out);clear a1 a2 a3 bt K0 K1 K2 K3 K4 BW;have c0:w2.cell? ⟨w.heap.size,1,none⟩=some (.int .i64 2):=K0'.out.cell 1;go_wp2_with fail
 have topc:∀ W,Calls Tryz.prog 121 #[.agg (kv (kd 1)).toArray] W λe w'=>e= .returned (.int .i64 3)∧Below W.heap.size W w':=λW=>top_t 1 (by omega) W
 have TOPC:=hid topc;clear c0 topc
 go_loopw [7,18] (λs i wr=>∃ k:Nat,k≤128∧i= .int .i64 k∧s= .int .i64 ((sumN 2 h k:Nat):Int)∧Blk wr w.heap.size 156 (kv (kd 1))∧Blk wr g2 161 (ints Z)∧Blk wr g3 161 (ints (dv (digN 2 6 h) k 265))∧Blk wr g4 185 (u8s (h++[0,0]))∧Below w.heap.size w wr) (λ_ i _=>128- (intOf i).toNat)
 case atStart=>exact⟨0,by omega,rfl,rfl,K0'.out,K2'.out,by have:=K3'.out;rw[←HZ.out] at this;exact this,K4'.out,B2.out⟩
 case round=>
  clear K0' K2' K3' K4' B2;obtain⟨k,hk,rfl,rfl,k0,k2,k3,k4,bw⟩:=hrel
  by_cases hlt:k<128
  ·have K0:=hid k0;have K2:=hid k2;have K3:=hid k3;have K4:=hid k4;have BW:=hid bw;clear k0 k2 k3 k4 bw;have i1:(k:Int)<265:=by omega
   have hlen3:(dv (digN 2 6 h) k 265).length=265:=dv_length _ (by omega);obtain⟨c,hc⟩:∃ c,coefN 2 (h++[0,0]) k=c:=⟨_,rfl⟩;have c1:c≤3:=by rw[←hc];exact Nat.le_of_lt_succ (coefN_lt 2 _ _)
   have hcd:digN 2 6 h k=c:=by rw[←hc,digN_own 2 6 (by decide) h HL.out k (by simpa using hlt),coefN_app 2 (by decide) h _ k HL.out (by simpa using hlt)]
   have HLEN3:=hid hlen3;have HC:=hid hc;have HCD:=hid hcd;clear hlen3 hc hcd
   go_wp2_with (first
    |((with_reducible refine load_blk 156 (.tmp 2) w.heap.size 156 (kv (kd 1)) _ rfl rfl ?_ Tryz.underlying156 ?_ ?_ ?_ ?_);exact K0.out;exact rfl;exact kv_size _;exact rfl)
    |((with_reducible refine load_blk 185 (.tmp 6) g4 185 (u8s (h++[0,0])) _ rfl rfl ?_ Tryz.underlying185 ?_ ?_ ?_ ?_);exact K4.out;exact rfl;exact size34 _ (by rw[List.length_append,HL.out];rfl);exact rfl)
    |fail)
   refine(coef_t 1 (by omega) (h++[0,0]) k wr (by rw[List.length_append,HL.out];rfl) (app_bytes HB.out (sl_bytes (by decide))) (by show k<34 * (8 / 2);omega)).mono ?_
   rintro e w3 ⟨rfl,b3⟩
   rw[show coefN (kd 1).w (h++[0,0]) k=c from HC.out];have M0:=hid (K0.out.below b3 K0.out.lt);have M2:=hid (K2.out.below b3 K2.out.lt);have M3:=hid (K3.out.below b3 K3.out.lt);have M4:=hid (K4.out.below b3 K4.out.lt);have B3:=hid (BW.out.trans (b3.mono BW.out.size));clear b3;have cv:w3.cell? ⟨g3,k,none⟩=some (.int .i64 ((gt (dv (digN 2 6 h) k 265) k:Nat):Int)):=by rw[M3.out.cell,ints_get _ _ (by rw[HLEN3.out];omega)]
   have cf:=M3.out.frozen k;go_wp2_with fail
   clear cv cf;have m3:=M3.out.store k (.int .i64 (c:Int));rw[ints_set,show(dv (digN 2 6 h) k 265).set k c=dv (digN 2 6 h) (k+1) 265 from by rw[←HCD.out,dv_set _ (by omega)]] at m3;have B4:=hid (B3.out.setCell (p:=⟨g3,k,none⟩) (by show w.heap.size≤g3;omega) (.int .i64 (c:Int)));have M0':=hid (M0.out.far (p:=⟨g3,k,none⟩) (by show w.heap.size≠g3;omega) (.int .i64 (c:Int)));have M2':=hid (M2.out.far (p:=⟨g3,k,none⟩) (by show g2≠g3;omega) (.int .i64 (c:Int)));have M4':=hid (M4.out.far (p:=⟨g3,k,none⟩) (by show g4≠g3;omega) (.int .i64 (c:Int)));have M3':=hid m3;clear m3;refine world_is (λW=>Blk W w.heap.size 156 (kv (kd 1))∧Blk W g2 161 (ints Z)∧Blk W g3 161 (ints (dv (digN 2 6 h) (k+1) 265))∧Blk W g4 185 (u8s (h++[0,0]))∧Below w.heap.size w W) ⟨M0'.out,M2'.out,M3'.out,M4'.out,B4.out⟩ ?_;clear M0 M2 M3 M4 M0' M2' M3' M4' B3 B4 K0 K2 K3 K4 BW
   rintro w4 ⟨k0,k2,k3,k4,bw⟩
   have rk:w4.drew.rangeAt w.heap.size 0 (kv (kd 1))∧w4.drew.cell? ⟨g3,k,none⟩=some (.int .i64 (c:Int)):=⟨range_of_blk k0.drew,by
    rw[k3.drew.cell,ints_get _ _ (by rw[dv_length _ (by omega)];omega),dv_get _ (by omega),HCD.out]⟩
   have K0:=hid k0.drew;have K2:=hid k2.drew;have K3:=hid k3.drew;have K4:=hid k4.drew;have BW:=hid bw.drew;obtain⟨d,hd⟩:∃ d,3-c=d:=⟨_,rfl⟩;have hsu:=sumN_le 2 h k;obtain⟨s,hs⟩:∃ s,sumN 2 h k=s:=⟨_,rfl⟩;rw[hs] at hsu ⊢;have e1:IntKind.i64.wrap (3- (c:Int))=(d:Int):=by rw[show(3:Int) - (c:Int)=(d:Int) from by omega];exact IntWalk.i64_in _ (by omega)
   obtain⟨t,ht⟩:∃ t,s+d=t:=⟨_,rfl⟩;have e2:IntKind.i64.wrap ((s:Int)+(d:Int))=(t:Int):=by rw[show(s:Int)+(d:Int)=(t:Int) from by omega];exact IntWalk.i64_in _ (by simp at hsu;omega)
   have HT:=hid (show sumN 2 h (k+1)=t by
    rw[sumN,hs,←coefN_app 2 (by decide) h [0,0] k HL.out (by simpa using hlt),HC.out,←ht,←hd])
   clear k0 k2 k3 k4 bw hd hs ht hsu;refine wp_region_held (S:=λV=>V.rangeAt w.heap.size 0 (kv (kd 1))∧V.cell? ⟨g3,k,none⟩=some (.int .i64 (c:Int))) (by kernel_rfl) ?_;change wpAnyH _ _ _ _ _ _ _ _ w4.drew;refine tka9 0 rk ?_;refine tkg9 1 (v:= .agg (kv (kd 1)).toArray) (yieldsIf_load_mid (by kernel_rfl) 156 (.tmp 2) rfl w.heap.size 0 (by go_simp) (kv (kd 1)) _ (λ_ h=>h.1) Tryz.underlying156 rfl (kv_size _)) rk ?_;refine tka9 3 rk ?_;refine tka9 4 rk ?_;refine tk9 5 ?_ ?_ rk ?_;rotate_left 1
   ·(intro w hS;have hs:=hS.2;clear hS;go_simp;try (with_reducible rfl))
   refine rd9 2 λK hK=>?_
   go_simp;refine(TOPC.out w4.drew).mono ?_
   rintro e w5 ⟨rfl,b5⟩
   have M0:=hid (K0.out.below b5 K0.out.lt);have M2:=hid (K2.out.below b5 K2.out.lt);have M3:=hid (K3.out.below b5 K3.out.lt);have M4:=hid (K4.out.below b5 K4.out.lt);have B5:=hid (BW.out.trans (b5.mono BW.out.size));have r5:w5.rangeAt w.heap.size 0 (kv (kd 1))∧w5.cell? ⟨g3,k,none⟩=some (.int .i64 (c:Int)):=⟨range_of_blk M0.out,(b5.cell (p:=⟨g3,k,none⟩) K3.out.lt).trans rk.2⟩;clear b5 rk K0 K2 K3 K4 BW;refine hK.out _ _ r5 (λ_=>?_);clear hK K;refine tka9 6 r5 ?_;refine tka9 7 r5 ?_;refine tka9 8 r5 ?_;refine wpAnyH_done (by kernel_rfl) ?_ _;go_simp;clear e1 e2 r5;go_wp2_with fail
   go_roundw
   case rel=>exact⟨k+1,by omega,by go_num,by rw[HT.out],M0.out,M2.out,M3.out,M4.out,B5.out⟩
   case measure=>simp[intOf];omega
  ·obtain rfl:k=128:=by omega
   rw[show((128:Nat):Int)=128 from rfl];have K0:=hid k0;have K2:=hid k2;have K3:=hid k3;have K4:=hid k4;have BW:=hid bw;have hsu:=sumN_le 2 h 128;have c3:wr.cell? ⟨w.heap.size,3,none⟩=some (.int .i64 6):=k0.cell 3;have f32:=k4.frozen 32;have f33:=k4.frozen 33;have h32:wr.cell? ⟨g4,32,none⟩=some (.int .u8 0):=by
    rw[k4.cell,u8s_get _ _ (by rw[List.length_append,HL.out];decide),gt_app_right (by rw[HL.out];decide),HL.out];rfl
   have h33:wr.cell? ⟨g4,33,none⟩=some (.int .u8 0):=by
    rw[k4.cell,u8s_get _ _ (by rw[List.length_append,HL.out];decide),gt_app_right (by rw[HL.out];decide),HL.out];rfl
   obtain⟨s,hs⟩:∃ s,sumN 2 h 128=s:=⟨_,rfl⟩;rw[hs] at hsu ⊢;have s1:(s:Int)≤8160:=by simp at hsu;omega
   have HS:=hid hs;clear hlt hk k0 k2 k3 k4 bw hs hsu;go_wp2_with fail
   have m4:=(K4.out.store 32 (.int .u8 ((s:Int) * 64 / 256 % 256))).store 33 (.int .u8 ((s:Int) * 64 % 256));rw[show((s:Int) * 64 / 256 % 256)=((s * 2 ^ 6 / 256 % 256:Nat):Int) from by omega,show((s:Int) * 64 % 256)=((s * 2 ^ 6 % 256:Nat):Int) from by omega,u8s_set,u8s_set,set_32 h HL.out,show h++[s * 2 ^ 6 / 256 % 256,s * 2 ^ 6 % 256]=extN 2 6 h from by unfold extN cksN;rw[show 256 / 2=128 from rfl,HS.out]] at m4;refine world_is (λW=>Blk W w.heap.size 156 (kv (kd 1))∧Blk W g2 161 (ints Z)∧Blk W g3 161 (ints (dv (digN 2 6 h) 128 265))∧Blk W g4 185 (u8s (extN 2 6 h))∧Below w.heap.size w W)
    ⟨(K0.out.far (by show w.heap.size≠g4;omega) _).far (by show w.heap.size≠g4;omega) _,(K2.out.far (by show g2≠g4;omega) _).far (by show g2≠g4;omega) _,(K3.out.far (by show g3≠g4;omega) _).far (by show g3≠g4;omega) _,by
     have v1:((s * 2 ^ 6 / 256 % 256:Nat):Int)=(s:Int) * 64 / 256 % 256:=by omega
     have v2:((s * 2 ^ 6 % 256:Nat):Int)=(s:Int) * 64 % 256:=by omega
     rw[v1,v2] at m4;exact m4,(BW.out.setCell (by show w.heap.size≤g4;omega) _).setCell (by show w.heap.size≤g4;omega) _⟩ ?_
   clear m4 K0 K2 K3 K4 BW c3 f32 f33 h32 h33 s1 HS
   rintro w4 ⟨k0,k2,k3,k4,bw⟩
   have K0:=hid k0;have K2:=hid k2;have K3:=hid k3;have K4:=hid k4;have BW:=hid bw;clear k0 k2 k3 k4 bw
   go_loopw [10] (λi wr=>∃ k:Nat,128≤k∧k≤133∧i= .int .i64 k∧Blk wr w.heap.size 156 (kv (kd 1))∧Blk wr g2 161 (ints Z)∧Blk wr g3 161 (ints (dv (digN 2 6 h) k 265))∧Blk wr g4 185 (u8s (extN 2 6 h))∧Below w.heap.size w wr) (λi _=>133- (intOf i).toNat)
   case atStart=>exact⟨128,by omega,by omega,rfl,K0.out,K2.out,K3.out,K4.out,BW.out⟩
   case round=>
    clear K0 K2 K3 K4 BW;obtain⟨k,hk1,hk2,rfl,k0,k2,k3,k4,bw⟩:=hrel;have K0:=hid k0;have K2:=hid k2;have K3:=hid k3;have K4:=hid k4;have BW:=hid bw;have c2:wr.cell? ⟨w.heap.size,2,none⟩=some (.int .i64 133):=k0.cell 2;clear k0 k2 k3 k4 bw
    by_cases hlt:k<133
    ·have i1:(k:Int)<265:=by omega
     have i2:(k:Int)<133:=by omega
     have hlen3:(dv (digN 2 6 h) k 265).length=265:=dv_length _ (by omega);have HLEN3:=hid hlen3;clear hlen3
     go_wp2_with (first
      |((with_reducible refine load_blk 156 (.tmp 2) w.heap.size 156 (kv (kd 1)) _ rfl rfl ?_ Tryz.underlying156 ?_ ?_ ?_ ?_);exact K0.out;exact rfl;exact kv_size _;exact rfl)
      |((with_reducible refine load_blk 185 (.tmp 6) g4 185 (u8s (extN 2 6 h)) _ rfl rfl ?_ Tryz.underlying185 ?_ ?_ ?_ ?_);exact K4.out;exact rfl;exact size34 _ (extN_length _ _ _ HL.out);exact rfl)
      |fail)
     refine(coef_t 1 (by omega) (extN 2 6 h) k wr (extN_length _ _ _ HL.out) (extN_bytes _ _ _ HB.out) (by show k<34 * (8 / 2);omega)).mono ?_
     rintro e w3 ⟨rfl,b3⟩
     rw[show coefN (kd 1).w (extN 2 6 h) k=digN 2 6 h k from rfl];have M0:=hid (K0.out.below b3 K0.out.lt);have M2:=hid (K2.out.below b3 K2.out.lt);have M3:=hid (K3.out.below b3 K3.out.lt);have M4:=hid (K4.out.below b3 K4.out.lt);have B3:=hid (BW.out.trans (b3.mono BW.out.size));clear b3 K0 K2 K3 K4 BW;have cv:w3.cell? ⟨g3,k,none⟩=some (.int .i64 ((gt (dv (digN 2 6 h) k 265) k:Nat):Int)):=by rw[M3.out.cell,ints_get _ _ (by rw[HLEN3.out];omega)]
     have cf:=M3.out.frozen k;go_wp2_with fail
     clear cv cf;have m3:=M3.out.store k (.int .i64 ((digN 2 6 h k:Nat):Int));rw[ints_set,dv_set _ (by omega)] at m3;have M3':=hid m3;clear m3
     go_roundw
     case rel=>exact⟨k+1,by omega,by omega,by go_num,M0.out.far (by show w.heap.size≠g3;omega) _,M2.out.far (by show g2≠g3;omega) _,M3'.out,M4.out.far (by show g4≠g3;omega) _,B3.out.setCell (by show w.heap.size≤g3;omega) _⟩
     case measure=>simp[intOf];omega
    ·obtain rfl:k=133:=by omega
     have hle:(dv (digN 2 6 h) 133 265).length=265:=dv_length _ (by omega);have hle2:(ints Z).length=(ints (dv (digN 2 6 h) 133 265)).length:=by rw[ints_length,ints_length,hle,←HZ.out,List.length_replicate]
     have HLE:=hid hle;have HLE2:=hid hle2;clear hle hle2
     go_wp2_with (first
      |((with_reducible refine load_blk 161 (.tmp 5) g3 161 (ints (dv (digN 2 6 h) 133 265)) _ rfl rfl ?_ Tryz.underlying161 ?_ ?_ ?_ ?_);exact K3.out;exact rfl;exact size265 _ HLE.out;exact rfl)
      |((with_reducible refine store_blk 161 (.tmp 4) (.tmp 60) g2 161 (ints Z) (ints (dv (digN 2 6 h) 133 265)) rfl rfl ?_ ?_ ?_ ?_ ?_ ?_ ?_);exact K2.out;exact HLE2.out;exact size265 _ HLE.out;exact ints_one _;exact rfl;exact rfl))
     exact ret_blk (p:=4) (ty:=161) rfl rfl g2 161 _ _ rfl (K2.out.setRow _) Tryz.underlying161 rfl (size265 _ HLE.out) ⟨rfl,below_setRow BW.out (by omega) _⟩
def digs (i:Nat) (h:List Nat):List Nat:=(List.range (kd i).p).map (digN (kd i).w (kd i).ls h)
theorem digs_length (i:Nat) (h:List Nat):(digs i h).length=(kd i).p:=by simp[digs]
theorem digits_t (i:Nat) (hi:i<4) (h:List Nat) (w:World) (hl:h.length=32) (hb:Bytes h):
  Calls Tryz.prog 115 #[.agg (kv (kd i)).toArray,.agg (u8s h).toArray] w λe w'=>e= .returned (.agg (ints (dv (digN (kd i).w (kd i).ls h) (kd i).p 265)).toArray)∧Below w.heap.size w w':=by
 have:i=0∨i=1∨i=2∨i=3:=by omega
 rcases this with rfl |rfl |rfl |rfl
 ·exact digits_0 h w hl hb
 ·exact digits_1 h w hl hb
 ·exact digits_2 h w hl hb
 ·exact digits_3 h w hl hb
end Go.Proofs.YtjlophplcmidlaaGreatDoor
