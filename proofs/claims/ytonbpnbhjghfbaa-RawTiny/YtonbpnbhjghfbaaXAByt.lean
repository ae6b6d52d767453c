import Derived.Test.YtonbpnbhjghfbaaXASmC
import Derived.Test.YtonbpnbhjghfbaaXABsB
namespace Go.Proofs.Ytonbpnbhjghfbaa
open Go.RowKit Go.Proofs.Try
set_option maxRecDepth 100000
set_option maxHeartbeats 8000000
section
attribute [local go_sem ↓] uz1
attribute [local go_sem] uz2
section
theorem bytes_any(a n:Nat)(ha:a<M)(hn:n≤72)(hb:bl a≤8*n)(w:World):
 Cg 38 #[.agg (nw 9 a),.int .i64 n] w (.tuple #[.string ⟨(bs n a).toArray⟩,.int .i64 0]):=by
 have R:(0:Int)≤n:=by omega
 have S:(n:Int)≤72:=by omega
 obtain⟨B,j⟩:∃B:Nat,bl a=B:=⟨_,rfl⟩;have cb:=fun w=>bits_any a ha w;rw[j]at cb;have l:Hid (∀w,Cg 45 #[.agg (nw 9 a)] w (.int .i64 B)):=cb
 have U:(B:Int)≤8*(n:Int):=by omega
 have d:=fun w=>make_bytes n a (by omega) w;clear cb j ha hb hn
 go_enter func38,ntmps38
 go_wp2_with (go_at_call 45;refine hkA l fun g=>?_)
 clear d l
 go_loopw [26] (fun i wr=>∃k:Nat,k≤n∧i=.int .i64 k∧wr=(gro (w.alloc (.cells (nw 9 a) 25)) g).alloc (.cells (bx n a k) 5)) (fun i _=>n-(intOf i).toNat)
 case atStart=>exact⟨0,by omega,rfl,rfl⟩
 case round=>
  obtain⟨k,x,rfl,rfl⟩:=hrel
  by_cases hlt:k<n
  ·obtain⟨P,D⟩:∃P,n=k+(P+1):=⟨n-k-1,by omega⟩;obtain⟨q,r,G,A⟩:∃q r,P=8*q+r∧r<8:=⟨P/8,P%8,by omega,by omega⟩;obtain⟨t,C⟩:∃t,t=8*r:=⟨_,rfl⟩
   have V:(n:Int)-1-k=P:=by omega
   have W:(P:Int)/8=q:=by omega
   have X:(P:Int)%8=r:=by omega
   have Y:8*(r:Int)=t:=by omega
   have Z:(0:Int)≤t:=by omega
   have t1:(t:Int)<64:=by omega
   have q0:(0:Int)≤q:=by omega
   have q1:(q:Int)<9:=by omega
   have H:q<9:=by omega
   have p0:(0:Int)≤P:=by omega
   have k0:(0:Int)≤k:=by omega
   have k1:(k:Int)<n:=by omega
   have ga:=nw_get 9 a q H;have gx:=bx_get n a k hlt;have I:Hu (t=8*r):=fun _=>C;have J:Hu (r<8):=fun _=>A
   have K:Hu (n-1-k=8*q+r):=fun _=>by omega
   clear C G A x D
   go_wp2
   go_roundw
   case rel=>
    refine⟨k+1,by omega,by go_num,?_⟩;rw[I.out (),byt_wd a q r (J.out ()),←K.out (),bx_set]
   case measure=>simp[intOf];omega
  ·have f:Hu (k=n):=fun _=>by omega
   have L:¬(k:Int)<n:=by omega
   have Q:∀(v:World) (b:Nat),blk v b=bx n a k→(convert 52 9 (.slice (some ⟨b,0,none⟩) n n)).run prog v=.ok (.string ⟨(bs n a).toArray⟩) v:=fun v b h=>conv_bytes n a v b (by rw[h,f.out ()]);clear hlt x
   go_wp2
   go_ret2
   exact⟨rfl,grA⟩
end
end
end Go.Proofs.Ytonbpnbhjghfbaa