import Derived.BigRegion
import Derived.Test.YtonbpnbhjghfbaaXAAdd
import Derived.Test.YtonbpnbhjghfbaaXAKu
namespace Go.Proofs.Ytonbpnbhjghfbaa
open Go.RowKit Go.Proofs.Try
set_option maxRecDepth 100000
set_option maxHeartbeats 8000000
section
attribute [local go_sem ↓] uz1
attribute [local go_sem] uz2
section
theorem natof_any(s:ByteArray)(hs:s.size≤72)(w:World):
 Cg 39 #[.string s] w (.tuple #[.agg (nw 9 (bn s.data.toList)),.int .i64 0]):=by
 have h:(s.size:Int)≤72:=by omega
 go_enter func39,ntmps39
 go_wp2
 go_loopw [13] (fun i wr=>∃k X:Nat,k≤s.size∧i=.int .i64 k∧bn (s.data.toList.take k)=X∧∃q,wr=((w.alloc (.cells (nw 9 0) 25)).alloc (.cells (nw 9 (X*2^(8*(s.size-k)))) 25)).drewN q) (fun i _=>s.size-(intOf i).toNat)
 case atStart=>exact⟨0,0,by omega,rfl,rfl,0,by rw[Nat.zero_mul];rfl⟩
 case round=>
  obtain⟨k,X,j,rfl,l,n,rfl⟩:=hrel;have x:Hu (bn (s.data.toList.take k)=X):=fun _=>l;clear l
  by_cases hlt:k<s.size
  ·obtain⟨P,H⟩:∃P,s.size=k+(P+1):=⟨s.size-k-1,by omega⟩;obtain⟨q,r,I,A⟩:∃q r,P=8*q+r∧r<8:=⟨P/8,P%8,by omega,by omega⟩;obtain⟨t,B⟩:∃t,t=8*r:=⟨_,rfl⟩
   have e1:(s.size:Int)-1-(k:Int)=P:=by omega
   have J:(P:Int)/8=q:=by omega
   have K:(P:Int)%8=r:=by omega
   have e4:8*(r:Int)=t:=by omega
   have d2:(P:Int).tdiv 8=(q:Int):=by rw[Int.tdiv_eq_ediv_of_nonneg (by omega)];exact J
   have d3:(P:Int).tmod 8=(r:Int):=by rw[Int.tmod_eq_emod_of_nonneg (by omega)];exact K
   have w2:IntKind.i64.wrap (q:Int)=q:=wiA;have w3:IntKind.i64.wrap (r:Int)=r:=wiA;have w4:IntKind.i64.wrap (t:Int)=t:=wiA
   have t0:(0:Int)≤t:=by omega
   have t1:(t:Int)<64:=by omega
   have q0:(0:Int)≤q:=by omega
   have q1:(q:Int)<9:=by omega
   have L:q<9:=by omega
   have p0:(0:Int)≤P:=by omega
   have k0:(0:Int)≤k:=by omega
   have k1:(k:Int)<(s.size:Int):=by omega
   have C:s.size-k=8*q+r+1:=by omega
   obtain⟨V,d⟩:∃V,V=X*2^(8*(s.size-k)):=⟨_,rfl⟩;rw[←d];have gV:=nw_get 9 V q L
   have Q:Hu (V=X*2^(8*(8*q+r+1))):=fun _=>by rw[d,C]
   have R:Hu (t=8*r):=fun _=>B;have D:Hu (r<8):=fun _=>A
   have S:Hu (s.size=k+(8*q+r+1)):=fun _=>by omega
   clear d B C I A hs j H
   go_wp2
   go_big_region
   go_wp2
   go_roundw
   case rel=>
    have G:s[k].toNat<256:=s[k].toNat_lt;have hp:=S.out ()
    have U:IntKind.u64.wrap ((s[k].toNat:Nat):Int)=((s[k].toNat:Nat):Int):=by rw[IntKind.wrap_u64];omega
    refine⟨k+1,X*256+s[k].toNat,by omega,by go_num,?_,n+1,?_⟩
    ·rw[take_snoc s k hlt,bn_snoc,x.out ()]
    ·have W:s.size-(k+1)=8*q+r:=by omega
     rw[U,W,R.out (),Q.out (),byte_or X q r _ (D.out ()) G,byte_set X q r _ (D.out ()) G]
   case measure=>simp[intOf];omega
  ·have f:Hu (k=s.size):=fun _=>by omega
   obtain⟨V,d⟩:∃V,V=X*2^(8*(s.size-k)):=⟨_,rfl⟩;rw[←d]
   have Y:Hu (bn s.data.toList=V):=fun _=>by
    rw[d,f.out (),Nat.sub_self,Nat.mul_zero,Nat.pow_zero,Nat.mul_one,←x.out (),f.out (),List.take_of_length_le (by simp)]
   have Z:¬(k:Int)<(s.size:Int):=by omega
   clear d hlt j hs
   go_wp2
   exact bodyPost_ret (v:=.tuple #[.agg (nw 9 V),.int .i64 0]) (by simp[results,results39,go_sem,nw9_lit]) rfl ⟨by rw[Y.out ()],grA⟩
end
end
end Go.Proofs.Ytonbpnbhjghfbaa