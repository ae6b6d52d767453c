import Derived.Test.YtdomjicpdbblnaaXASmC
import Derived.Test.YtdomjicpdbblnaaXABsB
namespace Go.Proofs.Ytdomjicpdbblnaa
open Go.RowKit Go.Proofs.Try
set_option maxRecDepth 100000
set_option maxHeartbeats 8000000
section
attribute [local go_sem ↓] uz1
attribute [local go_sem] uz2
section
theorem bytes_any(a n:Nat)(ha:a<M)(hn:n≤72)(hb:bl a≤8*n)(w:World):
 Cg 34 #[.agg (nw 9 a),.int .i64 n] w (.tuple #[.string ⟨(bs n a).toArray⟩,.int .i64 0]):=by
 have L:(0:Int)≤n:=by omega
 have Q:(n:Int)≤72:=by omega
 obtain⟨B,l⟩:∃B:Nat,bl a=B:=⟨_,rfl⟩;have d:=fun w=>bits_any a ha w;rw[l]at d;have m:Hid (∀w,Cg 16 #[.agg (nw 9 a)] w (.int .i64 B)):=d
 have R:(B:Int)≤8*(n:Int):=by omega
 have f:=fun w=>make_bytes n a hn w;clear d l ha hb hn
 go_enter func34,ntmps34
 go_wp2_with (go_at_call 16;refine hkA m fun g=>?_)
 clear f m
 go_loopw [26] (fun i wr=>∃k:Nat,k≤n∧i=.int .i64 k∧wr=(gro (w.alloc (.cells (nw 9 a) 25)) g).alloc (.cells (bx n a k) 5)) (fun i _=>n-(intOf i).toNat)
 case atStart=>exact⟨0,by omega,rfl,rfl⟩
 case round=>
  obtain⟨k,o,rfl,rfl⟩:=hrel
  by_cases hlt:k<n
  ·obtain⟨P,A⟩:∃P,n=k+(P+1):=⟨n-k-1,by omega⟩;obtain⟨q,r,C,p⟩:∃q r,P=8*q+r∧r<8:=⟨P/8,P%8,by omega,by omega⟩;obtain⟨t,x⟩:∃t,t=8*r:=⟨_,rfl⟩
   have S:(n:Int)-1-k=P:=by omega
   have U:(P:Int)/8=q:=by omega
   have V:(P:Int)%8=r:=by omega
   have W:8*(r:Int)=t:=by omega
   have X:(0:Int)≤t:=by omega
   have Y:(t:Int)<64:=by omega
   have Z:(0:Int)≤q:=by omega
   have q1:(q:Int)<9:=by omega
   have D:q<9:=by omega
   have p0:(0:Int)≤P:=by omega
   have k0:(0:Int)≤k:=by omega
   have k1:(k:Int)<n:=by omega
   have ga:=nw_get 9 a q D;have gx:=bx_get n a k hlt;have G:Hu (t=8*r):=fun _=>x;have H:Hu (r<8):=fun _=>p
   have I:Hu (n-1-k=8*q+r):=fun _=>by omega
   clear x C p o A
   go_wp2
   go_roundw
   case rel=>
    refine⟨k+1,by omega,by go_num,?_⟩;rw[G.out (),byt_wd a q r (H.out ()),←I.out (),bx_set]
   case measure=>simp[intOf];omega
  ·have j:Hu (k=n):=fun _=>by omega
   have J:¬(k:Int)<n:=by omega
   have K:∀(v:World) (b:Nat),blk v b=bx n a k→(convert 42 9 (.slice (some ⟨b,0,none⟩) n n)).run prog v=.ok (.string ⟨(bs n a).toArray⟩) v:=fun v b h=>conv_bytes n a v b (by rw[h,j.out ()]);clear hlt o
   go_wp2
   go_ret2
   exact⟨rfl,grA⟩
end
end
end Go.Proofs.Ytdomjicpdbblnaa