import Derived.Lib.BitFns
import Derived.Test.YtonbpnbhjghfbaaXANum
namespace Go.Proofs.Ytonbpnbhjghfbaa
open Go.RowKit
set_option maxRecDepth 100000
set_option maxHeartbeats 8000000
section
def bl(a:Nat):Nat:=if a=0 then 0 else Nat.log2 a+1
theorem bl_le(a n:Nat):bl a≤n↔a<2^n:=by
 grind [bl,Nat.two_pow_pos,Nat.log2_lt]
theorem bl_unique(a n:Nat)(h:∀m,n≤m↔a<2^m):bl a=n:=by
 have d:=(bl_le a n).2 ((h n).1 (Nat.le_refl n));have f:=(h (bl a)).2 ((bl_le a (bl a)).1 (Nat.le_refl _))
 omega
theorem bl_zero:bl 0=0:=rfl
theorem bl_shift(a k:Nat)(h:2^k≤a):bl a=k+bl (a/2^k):=by
 refine bl_unique a _ fun m=>?_
 constructor
 ·intro f;obtain⟨d,rfl⟩:∃d,m=k+d:=⟨m-k,by omega⟩;have:=(bl_le (a/2^k) d).1 (by omega);rw[Nat.div_lt_iff_lt_mul (Nat.two_pow_pos k),←Nat.pow_add,Nat.add_comm]at this;exact this
 ·intro f;have i:=(Nat.pow_lt_pow_iff_right (by decide)).1 (Nat.lt_of_le_of_lt h f);obtain⟨d,rfl⟩:∃d,m=k+d:=⟨m-k,by omega⟩;have:=(bl_le (a/2^k) d).2 (by rw[Nat.div_lt_iff_lt_mul (Nat.two_pow_pos k),←Nat.pow_add,Nat.add_comm];exact f)
  omega
theorem bl_half(x:Nat)(h:x≠0):bl x=1+bl (x/2):=by
 by_cases h1:x=1
 ·subst h1;rfl
 ·exact bl_shift x 1 (by omega)
theorem bl_lib_aux:∀(f x:Nat),x<2^f→Lib.bitLenAux f x=bl x
 | 0,x,h=>by
  obtain rfl:x=0:=by simpa using h
  rfl
 | f+1,x,h=>by
  unfold Lib.bitLenAux
  by_cases hx:x=0
  ·subst hx;rfl
  ·have d:x/2<2^f:=by rw[Nat.pow_succ]at h;omega
   have:=bl_lib_aux f (x/2) d;rw[bl_half x hx];simp[hx,this]
theorem bl_lib(x:Nat)(h:x<18446744073709551616):Lib.bitLen x=bl x:=bl_lib_aux 64 x h
theorem bl_le64(x:Nat)(h:x<18446744073709551616):bl x≤64:=(bl_le x 64).2 h
theorem bl_top(a j:Nat)(h:a/pw (j+1)=0)(hw:wd a j≠0):bl a=64*j+bl (wd a j):=by
 have e:a/pw j=wd a j:=by
  have:=Nat.div_add_mod (a/pw j) 18446744073709551616;rw[Nat.div_div_eq_div_mul,←pow_succ64,h]at this;unfold wd
  omega
 have d:pw j≤a:=by
  by_cases hc:a<pw j
  ·rw[Nat.div_eq_of_lt hc]at e;omega
  ·omega
 have:=bl_shift a (64*j) d;rw[this]
 show 64*j+bl (a/pw j)=_
 rw[e]
theorem div_zero_of(a j:Nat)(h:a/pw (j+1)=0)(hw:wd a j=0):a/pw j=0:=by
 have:=Nat.div_add_mod (a/pw j) 18446744073709551616;rw[Nat.div_div_eq_div_mul,←pow_succ64,h]at this;unfold wd at hw
 omega
end
section
def pq(k:Nat):Nat:=2^(32*k)
theorem pq_pos(k:Nat):0<pq k:=Nat.two_pow_pos _
theorem pq_zero:pq 0=1:=rfl
theorem pq_add(j k:Nat):pq (j+k)=pq j*pq k:=by
 unfold pq
 grind
theorem pq_one:pq 1=4294967296:=rfl
def dg(a k:Nat):Nat:=a/pq k%4294967296
def nd(n a:Nat):Array Value:=((List.range n).map fun k=>Value.int .u32 ((dg a k:Nat):Int)).toArray
theorem dg_lt(a k:Nat):dg a k<4294967296:=Nat.mod_lt _ (by decide)
theorem nd_size(n a:Nat):(nd n a).size=n:=by simp[nd]
theorem nd_get(n a k:Nat)(h:k<n):(nd n a)[k]? = some (Value.int .u32 ((dg a k:Nat):Int)):=by
 simp[nd,h]
theorem pq_succ(k:Nat):pq (k+1)=pq k*4294967296:=by
 rw[pq_add,pq_one]
theorem dparts(a k:Nat):a=a%pq k+dg a k*pq k+a/pq (k+1)*pq (k+1):=by
 grind [Nat.div_add_mod,pq,Nat.div_div_eq_div_mul,pq_succ,dg,Nat.mul_add,Nat.mul_comm,Nat.mul_assoc,Nat.add_comm]
theorem dmod_succ(a k:Nat):a%pq (k+1)=a%pq k+dg a k*pq k:=by
 rw[pq_succ,Nat.mod_mul,dg,Nat.mul_comm (pq k)]
theorem pq_pos2(k:Nat):0<pq k:=pq_pos k
theorem dg_set(a k x j:Nat)(hx:x<4294967296):
 dg (a%pq k+x*pq k+a/pq (k+1)*pq (k+1)) j=if j=k then x else dg a j:=by
 have i:a%pq k<pq k:=Nat.mod_lt _ (pq_pos2 k)
 have e:a%pq k+x*pq k+a/pq (k+1)*pq (k+1)=a%pq k+(x+a/pq (k+1)*4294967296)*pq k:=by
  rw[Nat.add_mul,Nat.mul_assoc _ 4294967296,Nat.mul_comm 4294967296,←pq_succ,Nat.add_assoc]
 rcases Nat.lt_trichotomy j k with h|h|h
 ·rw[if_neg (by omega)];rw[e];generalize x+a/pq (k+1)*4294967296=t;obtain⟨d,rfl⟩:∃d,k=j+1+d:=⟨k-(j+1),by omega⟩;unfold dg
  have l:pq (j+1+d)=pq j*(4294967296*pq d):=by
   rw[pq_add,pq_add,pq_one,Nat.mul_assoc]
  rw[l,←Nat.mul_assoc t,Nat.mul_right_comm t,Nat.add_mul_div_right _ _ (pq_pos2 j),Nat.mod_mul_right_div_self,Nat.mul_left_comm,Nat.add_mul_mod_self_left,Nat.mod_mul_right_mod]
 ·subst h;rw[if_pos rfl];rw[e];unfold dg;rw[div_at _ _ _ i,Nat.add_mul_mod_self_right,Nat.mod_eq_of_lt hx]
 ·rw[if_neg (by omega)];obtain⟨d,rfl⟩:∃d,j=k+1+d:=⟨j-(k+1),by omega⟩;unfold dg
  have l:pq (k+1+d)=pq (k+1)*pq d:=by
   rw[pq_add]
  have f:a%pq k+x*pq k<pq (k+1):=by
   rw[pq_succ];have:x*pq k≤4294967295*pq k:=Nat.mul_le_mul_right _ (by omega)
   omega
  rw[l,←Nat.div_div_eq_div_mul,←Nat.div_div_eq_div_mul,div_at _ _ _ f]
theorem nd_set(n a k x:Nat)(hx:x<4294967296):
 (nd n a).setIfInBounds k (Value.int .u32 x)=nd n (a%pq k+x*pq k+a/pq (k+1)*pq (k+1)):=by
 apply Array.ext_getElem?
 intro j;rw[Array.getElem?_setIfInBounds]
 by_cases hj:j<n
 ·by_cases hk:k=j
  ·subst hk;rw[if_pos rfl,nd_get _ _ _ hj,dg_set a k x k hx,if_pos rfl,if_pos (by simpa [nd_size]using hj)]
  ·rw[if_neg hk,nd_get _ _ _ hj,nd_get _ _ _ hj,dg_set a k x j hx,if_neg (by omega)]
 ·have d:(nd n a)[j]? = none:=by simp[nd];omega
  have f:(nd n (a%pq k+x*pq k+a/pq (k+1)*pq (k+1)))[j]? = none:=by simp[nd];omega
  rw[d,f]
  by_cases hk:k=j
  ·rw[if_pos hk,if_neg (by simp[nd_size];omega)]
  ·rw[if_neg hk]
theorem nd_set_top(n a k x:Nat)(hx:x<4294967296)(ha:a<pq k):
 (nd n a).setIfInBounds k (Value.int .u32 x)=nd n (a+x*pq k):=by
 have d:pq k≤pq (k+1):=by rw[pq_succ];omega
 rw[nd_set n a k x hx,Nat.mod_eq_of_lt ha,Nat.div_eq_of_lt (show a<pq (k+1) by omega),Nat.zero_mul,Nat.add_zero]
theorem dg_zero(k:Nat):dg 0 k=0:=by simp[dg]
def dsubC(a b k:Nat):Nat:=if a%pq k<b%pq k then 1 else 0
def dsubS(a b k:Nat):Nat:=a%pq k+dsubC a b k*pq k-b%pq k
theorem dsubC_le(a b k:Nat):dsubC a b k≤1:=by unfold dsubC;split <;> omega
theorem dsubS_lt(a b k:Nat):dsubS a b k<pq k:=by
 have d:=Nat.mod_lt a (pq_pos2 k);unfold dsubS dsubC
 split <;> omega
theorem dsubC_succ(a b k:Nat):dsubC a b (k+1)=if dg a k<dg b k+dsubC a b k then 1 else 0:=by
 have d:=Nat.mod_lt a (pq_pos2 k);have f:=Nat.mod_lt b (pq_pos2 k);unfold dsubC;rw[dmod_succ,dmod_succ];generalize pq k=P at *;generalize a%P=r at *;generalize b%P=s at *;generalize dg a k=x;generalize dg b k=y
 rcases Nat.lt_trichotomy x y with h|h|h
 ·have:(x+1)*P≤y*P:=Nat.mul_le_mul_right _ h;rw[Nat.add_mul]at this;rw[if_pos (by omega),if_pos (by split <;> omega)]
 ·subst h
  by_cases hr:r<s
  ·rw[if_pos (by omega),if_pos (by rw[if_pos hr];omega)]
  ·rw[if_neg (by omega),if_neg (by rw[if_neg hr];omega)]
 ·have:(y+1)*P≤x*P:=Nat.mul_le_mul_right _ h;rw[Nat.add_mul]at this;rw[if_neg (by omega),if_neg (by split <;> omega)]
theorem dsubS_succ(a b k:Nat):dsubS a b (k+1)=dsubS a b k+(dg a k+4294967296-dg b k-dsubC a b k)%4294967296*pq k:=by
 have A:=Nat.mod_lt a (pq_pos2 k);have C:=Nat.mod_lt b (pq_pos2 k);have D:=dg_lt a k;have G:=dg_lt b k;have d:=dsubC_succ a b k;have H:=dsubS_lt a b k;have j:=dsubC_le a b k
 have e:dsubS a b k+b%pq k=a%pq k+dsubC a b k*pq k:=by
  unfold dsubS dsubC
  split <;> omega
 have i:dsubS a b (k+1)+b%pq (k+1)=a%pq (k+1)+dsubC a b (k+1)*pq (k+1):=by
  have I:=Nat.mod_lt b (pq_pos2 (k+1));unfold dsubS dsubC
  split <;> omega
 rw[dmod_succ,dmod_succ,pq_succ]at i;generalize dsubS a b (k+1)=l at *;generalize dsubS a b k=S at *;generalize dsubC a b (k+1)=q at *;generalize dsubC a b k=c at *;generalize pq k=P at *;generalize a%P=r at *;generalize b%P=s at *;generalize dg a k=x at *;generalize dg b k=y at *
 -- l + s + y P = r + x P + q P B,  S + s = r + c P
 by_cases hl:x<y+c
 ·rw[if_pos hl]at d;subst d;obtain⟨z,f⟩:∃z,x+4294967296=y+c+z:=⟨x+4294967296-(y+c),by omega⟩
  have h:(x+4294967296-y-c)%4294967296=z:=by omega
  rw[h]
  have v:x*P+4294967296*P=y*P+c*P+z*P:=by rw[←Nat.add_mul,←Nat.add_mul,←Nat.add_mul,f]
  rw[Nat.mul_comm P]at i
  omega
 ·rw[if_neg hl]at d;subst d;obtain⟨z,f⟩:∃z,x=y+c+z:=⟨x-(y+c),by omega⟩
  have h:(x+4294967296-y-c)%4294967296=z:=by omega
  rw[h]
  have v:x*P=y*P+c*P+z*P:=by rw[←Nat.add_mul,←Nat.add_mul,f]
  omega
theorem dsubS_zero(a b:Nat):dsubS a b 0=0:=by simp[dsubS,dsubC,pq_zero,Nat.mod_one]
theorem dsubC_zero(a b:Nat):dsubC a b 0=0:=by simp[dsubC,pq_zero,Nat.mod_one]
def dset(V p x:Nat):Nat:=V%pq p+x*pq p+V/pq (p+1)*pq (p+1)
theorem nd_dset(n V p x:Nat)(hx:x<4294967296):(nd n V).setIfInBounds p (Value.int .u32 x)=nd n (dset V p x):=nd_set n V p x hx
theorem dset_lt(V p x q:Nat)(hV:V<pq q)(hp:p<q)(hx:x<4294967296):dset V p x<pq q:=by
 obtain⟨m,rfl⟩:∃m,q=m+(p+1):=⟨q-(p+1),by omega⟩;have h:V%pq p<pq p:=Nat.mod_lt _ (pq_pos p)
 have d:V/pq (p+1)<pq m:=by
  rw[Nat.div_lt_iff_lt_mul (pq_pos _),←pq_add];exact hV
 have i:x*pq p≤4294967295*pq p:=Nat.mul_le_mul_right _ (by omega);have f:(V/pq (p+1)+1)*pq (p+1)≤pq m*pq (p+1):=Nat.mul_le_mul_right _ d;have j:=pq_succ p;unfold dset;rw[pq_add m (p+1)];rw[Nat.add_mul]at f;generalize V/pq (p+1)*pq (p+1)=z at *;generalize pq m*pq (p+1)=t at *
 omega
def dl(x:Nat):Nat:=(bl x+31)/32
theorem dl_le(x k:Nat):dl x≤k↔x<pq k:=by
 unfold dl pq;rw[←bl_le]
 omega
theorem dl_lt(x:Nat):x<pq (dl x):=(dl_le x (dl x)).1 (Nat.le_refl _)
theorem dl_zero:dl 0=0:=rfl
theorem dl_eq_zero(x:Nat)(h:dl x=0):x=0:=by
 grind [dl_lt,pq_zero]
theorem dl_top_zero(x k:Nat)(hx:x<pq (k+1))(h:dg x k=0):x<pq k:=by
 have e:=dmod_succ x k;rw[Nat.mod_eq_of_lt hx,h,Nat.zero_mul,Nat.add_zero]at e;rw[e];exact Nat.mod_lt _ (pq_pos k)
theorem dl_top(x k:Nat)(hx:x<pq (k+1))(h:dg x k≠0):dl x=k+1:=by
 have i:=(dl_le x (k+1)).2 hx
 have d:¬dl x≤k:=fun d=>h (by
  have f:=(dl_le x k).1 d;unfold dg
  rw[Nat.div_eq_of_lt f])
 omega
theorem dg_beyond(x k:Nat)(h:dl x≤k):dg x k=0:=by
 have d:=(dl_le x k).1 h;unfold dg;rw[Nat.div_eq_of_lt d]
theorem pq_two(k:Nat):pq (2*k)=pw k:=by unfold pq pw;rw[show 32*(2*k)=64*k by omega]
theorem dg_even(a k:Nat):dg a (2*k)=wd a k%4294967296:=by
 unfold dg wd;rw[pq_two,show (18446744073709551616:Nat)=4294967296*4294967296 from rfl,Nat.mod_mul_right_mod]
theorem dg_odd(a k:Nat):dg a (2*k+1)=wd a k/4294967296:=by
 unfold dg wd;rw[pq_succ,pq_two,←Nat.div_div_eq_div_mul,show (18446744073709551616:Nat)=4294967296*4294967296 from rfl,Nat.mod_mul_right_div_self]
theorem wd_two(a k:Nat):wd a k=dg a (2*k)+dg a (2*k+1)*4294967296:=by
 rw[dg_even,dg_odd]
 omega
theorem nd_next(n a k:Nat):(nd n (a%pq k)).setIfInBounds k (.int .u32 ((dg a k:Nat):Int))=nd n (a%pq (k+1)):=by
 rw[nd_set_top n _ k _ (dg_lt a k) (Nat.mod_lt _ (pq_pos k)),dmod_succ]
end
end Go.Proofs.Ytonbpnbhjghfbaa