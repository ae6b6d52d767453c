import Derived.Test.YtgpfabihgjhefaaXVVI
import Derived.Test.YtgpfabihgjhefaaXVQt
namespace Go.Proofs.Ytgpfabihgjhefaa
open Go.RowKit
set_option maxRecDepth 100000
set_option maxHeartbeats 8000000
section
attribute [local go_sem ↓] uz1
attribute [local go_sem] uz2
section
theorem same_ints {w:World} {p q:Option Addr} {n:Nat} {f g:Nat→Int} (c d:Nat) (hp:Iv w p n f) (hq:Iv w q n g) (hn:n≤4611686018427387904) (h:∀ i,i<n→f i=g i):
 Cg 14 #[.slice p n c,.slice q n d] w (.bool true):=by
 have HP:Hid (Iv w p n f):=hp
 have HQ:Hid (Iv w q n g):=hq
 have HE:Hid (∀ i,i<n→f i=g i):=h
 have n0:(n:Int)≤4611686018427387904:=by omega
 clear hp hq h hn
 go_enter Try.func14,Try.ntmps14
 go_wp2
 go_loopw [5] (fun i wr=>∃ j:Nat,Hid (Unit→j≤n)∧i=.int .i64 (j:Int)∧Hid (Gr w wr)) (fun i _=>(n-(intOf i).toNat))
 case atStart=>exact ⟨0,fun _=>by omega,rfl,Gr.refl _⟩
 case round=>
  obtain ⟨j,HJ,rfl,HG⟩:=hrel
  by_cases hlt:j<n
  ·obtain ⟨b,o,rfl,hc⟩:=(HP.out.gr HG.out).at hlt
   obtain ⟨b2,o2,rfl,hc2⟩:=(HQ.out.gr HG.out).at hlt
   rw [← HE.out j hlt] at hc2
   obtain ⟨d,hd⟩:=exl (f j)
   rw [hd] at hc hc2
   have j0:(0:Int)≤(j:Int):=by omega
   have j1:(j:Int)<(n:Int):=by omega
   have HJ1:Hid (Unit→j+1≤n):=fun _=>hlt
   clear hd hlt HJ
   go_wp2
   go_quiet (fail)
   go_wp2
   go_roundw
   case rel=>exact ⟨j+1,HJ1,by go_num,HG.out.drewN _⟩
   case measure=>simp [intOf]; omega
  ·have hni:¬ (j:Int)<(n:Int):=by omega
   clear hlt HJ
   go_wp2
   go_ret
   exact ⟨rfl,HG.out⟩
theorem rx_empty (w:World):Rx (w.alloc (.cells #[] 3)) w.heap.size 0 0 (iF fun _=>0):=Rx.new w 0 _ _ rfl
attribute [local go_sem ↓] apI_is
end
end
end Go.Proofs.Ytgpfabihgjhefaa