import Derived.Lib.BitFns
import Derived.Test.YtffhepbppiocbaaXBNumM
namespace Go.Proofs.Ytffhepbppiocbaa
open Go.RowKit
set_option maxRecDepth 100000
set_option maxHeartbeats 8000000
section
def bl(a:Nat):Nat:=if a=0 then 0 else Nat.log2 a+1
theorem bl_le(a n:Nat):bl a≤n↔a<2^n:=by
 grind [bl,Nat.two_pow_pos,Nat.log2_lt]
theorem bl_unique(a n:Nat)(h:∀m,n≤m↔a<2^m):bl a=n:=by
 have d:=(bl_le a n).2 ((h n).1 (Nat.le_refl n));have f:=(h (bl a)).2 ((bl_le a (bl a)).1 (Nat.le_refl _))
 omega
theorem bl_zero:bl 0=0:=rfl
theorem bl_shift(a k:Nat)(h:2^k≤a):bl a=k+bl (a/2^k):=by
 refine bl_unique a _ fun m=>?_
 constructor
 ·intro f;obtain⟨d,rfl⟩:∃d,m=k+d:=⟨m-k,by omega⟩;have:=(bl_le (a/2^k) d).1 (by omega);rw[Nat.div_lt_iff_lt_mul (Nat.two_pow_pos k),←Nat.pow_add,Nat.add_comm]at this;exact this
 ·intro f;have i:=(Nat.pow_lt_pow_iff_right (by decide)).1 (Nat.lt_of_le_of_lt h f);obtain⟨d,rfl⟩:∃d,m=k+d:=⟨m-k,by omega⟩;have:=(bl_le (a/2^k) d).2 (by rw[Nat.div_lt_iff_lt_mul (Nat.two_pow_pos k),←Nat.pow_add,Nat.add_comm];exact f)
  omega
theorem bl_half(x:Nat)(h:x≠0):bl x=1+bl (x/2):=by
 by_cases h1:x=1
 ·subst h1;rfl
 ·exact bl_shift x 1 (by omega)
theorem bl_lib_aux:∀(f x:Nat),x<2^f→Lib.bitLenAux f x=bl x
 | 0,x,h=>by
  obtain rfl:x=0:=by simpa using h
  rfl
 | f+1,x,h=>by
  unfold Lib.bitLenAux
  by_cases hx:x=0
  ·subst hx;rfl
  ·have d:x/2<2^f:=by rw[Nat.pow_succ]at h;omega
   have:=bl_lib_aux f (x/2) d;rw[bl_half x hx];simp[hx,this]
theorem bl_lib(x:Nat)(h:x<18446744073709551616):Lib.bitLen x=bl x:=bl_lib_aux 64 x h
theorem bl_le64(x:Nat)(h:x<18446744073709551616):bl x≤64:=(bl_le x 64).2 h
theorem bl_top(a j:Nat)(h:a/pw (j+1)=0)(hw:wd a j≠0):bl a=64*j+bl (wd a j):=by
 have e:a/pw j=wd a j:=by
  have:=Nat.div_add_mod (a/pw j) 18446744073709551616;rw[Nat.div_div_eq_div_mul,←pow_succ64,h]at this;unfold wd
  omega
 have d:pw j≤a:=by
  by_cases hc:a<pw j
  ·rw[Nat.div_eq_of_lt hc]at e;omega
  ·omega
 have:=bl_shift a (64*j) d;rw[this]
 show 64*j+bl (a/pw j)=_
 rw[e]
theorem div_zero_of(a j:Nat)(h:a/pw (j+1)=0)(hw:wd a j=0):a/pw j=0:=by
 have:=Nat.div_add_mod (a/pw j) 18446744073709551616;rw[Nat.div_div_eq_div_mul,←pow_succ64,h]at this;unfold wd at hw
 omega
end
section
def pq(k:Nat):Nat:=2^(32*k)
theorem pq_add(j k:Nat):pq (j+k)=pq j*pq k:=by
 unfold pq
 grind
theorem pq_one:pq 1=4294967296:=rfl
def dg(a k:Nat):Nat:=a/pq k%4294967296
def nd(n a:Nat):Array Value:=((List.range n).map fun k=>Value.int .u32 ((dg a k:Nat):Int)).toArray
theorem nd_size(n a:Nat):(nd n a).size=n:=by simp[nd]
theorem nd_get(n a k:Nat)(h:k<n):(nd n a)[k]? = some (Value.int .u32 ((dg a k:Nat):Int)):=by
 simp[nd,h]
theorem pq_succ(k:Nat):pq (k+1)=pq k*4294967296:=by
 rw[pq_add,pq_one]
def dl(x:Nat):Nat:=(bl x+31)/32
theorem dl_le(x k:Nat):dl x≤k↔x<pq k:=by
 unfold dl pq;rw[←bl_le]
 omega
theorem dl_zero:dl 0=0:=rfl
end
end Go.Proofs.Ytffhepbppiocbaa