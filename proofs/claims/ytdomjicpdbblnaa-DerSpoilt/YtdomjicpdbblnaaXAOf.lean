import Derived.BigRegion
import Derived.Test.YtdomjicpdbblnaaXASmA
import Derived.Test.YtdomjicpdbblnaaXANumO
namespace Go.Proofs.Ytdomjicpdbblnaa
open Go.RowKit Go.Proofs.Try
set_option maxRecDepth 100000
set_option maxHeartbeats 8000000
section
attribute [local go_sem ↓] uz1
attribute [local go_sem] uz2
section
theorem of_long(s:ByteArray)(hs:72<s.size)(w:World):
 Cg 30 #[.string s] w (.tuple #[.agg (nw 9 0),.int .i64 100]):=by
 have h:(72:Int)<(s.size:Int):=by omega
 clear hs
 go_enter func30,ntmps30
 go_wp2
 exact bodyPost_ret (v:=.tuple #[.agg (nw 9 0),.int .i64 100]) (by simp[results,results30,go_sem,nw9_lit]) rfl ⟨rfl,grA⟩
theorem natof_any(s:ByteArray)(hs:s.size≤72)(w:World):
 Cg 30 #[.string s] w (.tuple #[.agg (nw 9 (bn s.data.toList)),.int .i64 0]):=by
 have h:(s.size:Int)≤72:=by omega
 go_enter func30,ntmps30
 go_wp2
 go_loopw [13] (fun i wr=>∃k X:Nat,k≤s.size∧i=.int .i64 k∧bn (s.data.toList.take k)=X∧∃q,wr=((w.alloc (.cells (nw 9 0) 25)).alloc (.cells (nw 9 (X*2^(8*(s.size-k)))) 25)).drewN q) (fun i _=>s.size-(intOf i).toNat)
 case atStart=>exact⟨0,0,by omega,rfl,rfl,0,by rw[Nat.zero_mul];rfl⟩
 case round=>
  obtain⟨k,X,f,rfl,j,n,rfl⟩:=hrel;have l:Hu (bn (s.data.toList.take k)=X):=fun _=>j;clear j
  by_cases hlt:k<s.size
  ·obtain⟨P,B⟩:∃P,s.size=k+(P+1):=⟨s.size-k-1,by omega⟩;obtain⟨q,r,C,m⟩:∃q r,P=8*q+r∧r<8:=⟨P/8,P%8,by omega,by omega⟩;obtain⟨t,o⟩:∃t,t=8*r:=⟨_,rfl⟩
   have U:(s.size:Int)-1-(k:Int)=P:=by omega
   have D:(P:Int)/8=q:=by omega
   have G:(P:Int)%8=r:=by omega
   have W:8*(r:Int)=t:=by omega
   have Y:(P:Int).tdiv 8=(q:Int):=by rw[Int.tdiv_eq_ediv_of_nonneg (by omega)];exact D
   have Z:(P:Int).tmod 8=(r:Int):=by rw[Int.tmod_eq_emod_of_nonneg (by omega)];exact G
   have w2:IntKind.i64.wrap (q:Int)=q:=wiA;have w3:IntKind.i64.wrap (r:Int)=r:=wiA;have w4:IntKind.i64.wrap (t:Int)=t:=wiA
   have t0:(0:Int)≤t:=by omega
   have t1:(t:Int)<64:=by omega
   have q0:(0:Int)≤q:=by omega
   have q1:(q:Int)<9:=by omega
   have H:q<9:=by omega
   have p0:(0:Int)≤P:=by omega
   have k0:(0:Int)≤k:=by omega
   have k1:(k:Int)<(s.size:Int):=by omega
   have p:s.size-k=8*q+r+1:=by omega
   obtain⟨V,b⟩:∃V,V=X*2^(8*(s.size-k)):=⟨_,rfl⟩;rw[←b];have gV:=nw_get 9 V q H
   have I:Hu (V=X*2^(8*(8*q+r+1))):=fun _=>by rw[b,p]
   have J:Hu (t=8*r):=fun _=>o;have x:Hu (r<8):=fun _=>m
   have K:Hu (s.size=k+(8*q+r+1)):=fun _=>by omega
   clear b o p C m hs f B
   go_wp2
   go_big_region
   go_wp2
   go_roundw
   case rel=>
    have A:s[k].toNat<256:=s[k].toNat_lt;have hp:=K.out ()
    have L:IntKind.u64.wrap ((s[k].toNat:Nat):Int)=((s[k].toNat:Nat):Int):=by rw[IntKind.wrap_u64];omega
    refine⟨k+1,X*256+s[k].toNat,by omega,by go_num,?_,n+1,?_⟩
    ·rw[take_snoc s k hlt,bn_snoc,l.out ()]
    ·have Q:s.size-(k+1)=8*q+r:=by omega
     rw[L,Q,J.out (),I.out (),byte_or X q r _ (x.out ()) A,byte_set X q r _ (x.out ()) A]
   case measure=>simp[intOf];omega
  ·have d:Hu (k=s.size):=fun _=>by omega
   obtain⟨V,b⟩:∃V,V=X*2^(8*(s.size-k)):=⟨_,rfl⟩;rw[←b]
   have R:Hu (bn s.data.toList=V):=fun _=>by
    rw[b,d.out (),Nat.sub_self,Nat.mul_zero,Nat.pow_zero,Nat.mul_one,←l.out (),d.out (),List.take_of_length_le (by simp)]
   have S:¬(k:Int)<(s.size:Int):=by omega
   clear b hlt f hs
   go_wp2
   exact bodyPost_ret (v:=.tuple #[.agg (nw 9 V),.int .i64 0]) (by simp[results,results30,go_sem,nw9_lit]) rfl ⟨by rw[R.out ()],grA⟩
end
end
end Go.Proofs.Ytdomjicpdbblnaa