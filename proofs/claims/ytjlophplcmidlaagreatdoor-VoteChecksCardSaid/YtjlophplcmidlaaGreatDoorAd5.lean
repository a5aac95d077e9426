/-
  
-/
import Derived.Test.YtjlophplcmidlaaGreatDoorAd4
namespace Go.Proofs.YtjlophplcmidlaaGreatDoor
open Go.RowKit Sh
theorem part_u8 (xs:List Nat) (k:Nat) (hk:k<xs.length) (w:World):(part 5 (u8s xs).toArray k).run Tryz.prog w= .ok (.int .u8 ((gt xs k:Nat):Int)) w:=by
 have ha:(isAgg 5).run Tryz.prog w= .ok false w:=by kernel_rfl
 unfold part;rw[Sem.run_bind,ha];simp[Result.andThen,u8s_get xs k hk]
theorem sum_bytes (l:List Nat) (_:Bytes l):Bytes (sum l):=by
 have hok:∀ s:S8,s.ok→Bytes (out s):=λs hs=>by
  rw[bytes_mem];intro x hx;obtain⟨v,hv,hx⟩:=List.mem_flatMap.1 hx;have hvl:v<4294967296:=by
   obtain⟨i,hi,rfl⟩:=List.mem_iff_getElem.1 hv;have:=list_lt hs i
   rwa [gt_of_lt hi] at this
  unfold bytes4 at hx;simp at hx;omega
 exact hok _ (run_ok _ _)
end Go.Proofs.YtjlophplcmidlaaGreatDoor
