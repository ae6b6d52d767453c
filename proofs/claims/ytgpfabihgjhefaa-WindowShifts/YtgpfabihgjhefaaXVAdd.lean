import Derived.Test.YtgpfabihgjhefaaXVShl
namespace Go.Proofs.Ytgpfabihgjhefaa
open Go.RowKit
set_option maxRecDepth 100000
set_option maxHeartbeats 8000000
section
attribute [local go_sem ↓] uz1
attribute [local go_sem] uz2
section
theorem add_raw (a b:Nat) (w:World):
 Cg 23 #[.agg (nw 9 a),.agg (nw 9 b)] w (.tuple #[.agg (nw 9 (addS a b 9)),.bool (((addC a b 9:Nat):Int) != 0)]):=by
 go_enter Try.func23,Try.ntmps23
 go_wp2
 go_loopw [7,9] (fun c i wr=>∃ k n:Nat,k≤9∧i=.int .i64 k∧c=.int .u64 (addC a b k)∧wr=(((((w.alloc (.cells (nw 9 a) 25)).alloc (.cells (nw 9 b) 25)).alloc (.cells (nw 9 0) 25)).alloc (.cells (nw 9 (addS a b k)) 25)).drewN n)) (fun _ i _=>9-(intOf i).toNat)
 case atStart=>exact ⟨0,0,by omega,rfl,by rw [addC_zero]; rfl,by rw [addS_zero,nw9_zero]; rfl⟩
 case round=>
  obtain ⟨k,n,hk,rfl,rfl,rfl⟩:=hrel
  by_cases hlt:k<9
  ·have hl0:(0:Int)≤(k:Int):=by omega
   have hl1:(k:Int)<9:=by omega
   have ga:=nw_get 9 a k hlt
   have gb:=nw_get 9 b k hlt
   have gs:=nw_get 9 (addS a b k) k hlt
   have c0:(0:Int)≤((addC a b k:Nat):Int):=by omega
   have c1:((addC a b k:Nat):Int)≤1:=by have:=addC_le a b k; omega
   have a0:(0:Int)≤((wd a k:Nat):Int):=by omega
   have b0:(0:Int)≤((wd b k:Nat):Int):=by omega
   go_wp2
   go_region_held3 (fun w'=>w'.cell? ⟨w.heap.size,k,none⟩=some (.int .u64 ((wd a k:Nat):Int))∧w'.cell? ⟨w.heap.size+1,k,none⟩=some (.int .u64 ((wd b k:Nat):Int))) (simp [go_sem, *]) (simp only [add64 _ _ _ a0 b0 c0 c1])
   go_wp2
   go_roundw
   case rel=>
    refine ⟨k+1,n+1,by omega,by go_num,?_,?_⟩
    ·rw [addC_int]
    ·simp [go_sem,addS_set]
   case measure=>simp [intOf]; omega
  ·have hk9:Hid (k=9):=show k=9 from by omega
   go_wp2
   exact bodyPost_ret (v:=.tuple #[.agg (nw 9 (addS a b k)),.bool (((addC a b k:Nat):Int) != 0)]) (by simp [results,Try.results23,go_sem,nw9_lit]) rfl ⟨by rw [hk9.out],(((((Gr.refl w).alloc _).alloc _).alloc _).alloc _).drewN _⟩
theorem add_any (a b:Nat) (ha:a<M) (hb:b<M) (w:World):
 Cg 23 #[.agg (nw 9 a),.agg (nw 9 b)] w (.tuple #[.agg (nw 9 ((a+b)%M)),.bool (decide (M≤a+b))]):=by
 refine (add_raw a b w).mono fun e w' h=>⟨?_,h.2⟩
 rw [h.1,addS_M a b ha hb,addC_M a b ha hb]
end
end
end Go.Proofs.Ytgpfabihgjhefaa