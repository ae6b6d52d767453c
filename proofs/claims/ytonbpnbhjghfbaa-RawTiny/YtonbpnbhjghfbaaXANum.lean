import Derived.WalkKit
import Derived.Test.YtonbpnbhjghfbaaRows
namespace Go.Proofs.Ytonbpnbhjghfbaa
open Go.RowKit
set_option maxRecDepth 100000
set_option maxHeartbeats 8000000
section
def pw(k:Nat):Nat:=2^(64*k)
theorem pw_pos(k:Nat):0<pw k:=Nat.two_pow_pos _
theorem pw_zero:pw 0=1:=rfl
theorem pw_add(j k:Nat):pw (j+k)=pw j*pw k:=by
 unfold pw
 grind
theorem pw_one:pw 1=18446744073709551616:=rfl
def wd(a k:Nat):Nat:=a/pw k%18446744073709551616
def nw(n a:Nat):Array Value:=((List.range n).map fun k=>Value.int .u64 ((wd a k:Nat):Int)).toArray
theorem wd_lt(a k:Nat):wd a k<18446744073709551616:=Nat.mod_lt _ (by decide)
theorem nw_size(n a:Nat):(nw n a).size=n:=by simp[nw]
theorem nw_get(n a k:Nat)(h:k<n):(nw n a)[k]? = some (Value.int .u64 ((wd a k:Nat):Int)):=by
 simp[nw,h]
theorem nw_elem(n a k:Nat)(h:k<(nw n a).size):(nw n a)[k]=Value.int .u64 ((wd a k:Nat):Int):=by
 simp[nw]
theorem pow_succ64(k:Nat):pw (k+1)=pw k*18446744073709551616:=by
 rw[pw_add,pw_one]
theorem parts(a k:Nat):a=a%pw k+wd a k*pw k+a/pw (k+1)*pw (k+1):=by
 grind [Nat.div_add_mod,pw,Nat.div_div_eq_div_mul,pow_succ64,wd,Nat.mul_add,Nat.mul_comm,Nat.mul_assoc,Nat.add_comm]
theorem mod_succ(a k:Nat):a%pw (k+1)=a%pw k+wd a k*pw k:=by
 rw[pow_succ64,Nat.mod_mul,wd,Nat.mul_comm (pw k)]
theorem pow_pos64(k:Nat):0<pw k:=pw_pos k
theorem div_at(r t P:Nat)(h:r<P):(r+t*P)/P=t:=by
 rw[Nat.add_mul_div_right _ _ (by omega),Nat.div_eq_of_lt h,Nat.zero_add]
theorem wd_set(a k x j:Nat)(hx:x<18446744073709551616):
 wd (a%pw k+x*pw k+a/pw (k+1)*pw (k+1)) j=if j=k then x else wd a j:=by
 have i:a%pw k<pw k:=Nat.mod_lt _ (pow_pos64 k)
 have e:a%pw k+x*pw k+a/pw (k+1)*pw (k+1)=a%pw k+(x+a/pw (k+1)*18446744073709551616)*pw k:=by
  rw[Nat.add_mul,Nat.mul_assoc _ 18446744073709551616,Nat.mul_comm 18446744073709551616,←pow_succ64,Nat.add_assoc]
 rcases Nat.lt_trichotomy j k with h|h|h
 ·rw[if_neg (by omega)];rw[e];generalize x+a/pw (k+1)*18446744073709551616=t;obtain⟨d,rfl⟩:∃d,k=j+1+d:=⟨k-(j+1),by omega⟩;unfold wd
  have l:pw (j+1+d)=pw j*(18446744073709551616*pw d):=by
   rw[pw_add,pw_add,pw_one,Nat.mul_assoc]
  rw[l,←Nat.mul_assoc t,Nat.mul_right_comm t,Nat.add_mul_div_right _ _ (pow_pos64 j),Nat.mod_mul_right_div_self,Nat.mul_left_comm,Nat.add_mul_mod_self_left,Nat.mod_mul_right_mod]
 ·subst h;rw[if_pos rfl];rw[e];unfold wd;rw[div_at _ _ _ i,Nat.add_mul_mod_self_right,Nat.mod_eq_of_lt hx]
 ·rw[if_neg (by omega)];obtain⟨d,rfl⟩:∃d,j=k+1+d:=⟨j-(k+1),by omega⟩;unfold wd
  have l:pw (k+1+d)=pw (k+1)*pw d:=by
   rw[pw_add]
  have f:a%pw k+x*pw k<pw (k+1):=by
   rw[pow_succ64];have:x*pw k≤18446744073709551615*pw k:=Nat.mul_le_mul_right _ (by omega)
   omega
  rw[l,←Nat.div_div_eq_div_mul,←Nat.div_div_eq_div_mul,div_at _ _ _ f]
theorem nw_set(n a k x:Nat)(hx:x<18446744073709551616):
 (nw n a).setIfInBounds k (Value.int .u64 x)=nw n (a%pw k+x*pw k+a/pw (k+1)*pw (k+1)):=by
 apply Array.ext_getElem?
 intro j;rw[Array.getElem?_setIfInBounds]
 by_cases hj:j<n
 ·by_cases hk:k=j
  ·subst hk;rw[if_pos rfl,nw_get _ _ _ hj,wd_set a k x k hx,if_pos rfl,if_pos (by simpa [nw_size]using hj)]
  ·rw[if_neg hk,nw_get _ _ _ hj,nw_get _ _ _ hj,wd_set a k x j hx,if_neg (by omega)]
 ·have d:(nw n a)[j]? = none:=by simp[nw];omega
  have f:(nw n (a%pw k+x*pw k+a/pw (k+1)*pw (k+1)))[j]? = none:=by simp[nw];omega
  rw[d,f]
  by_cases hk:k=j
  ·rw[if_pos hk,if_neg (by simp[nw_size];omega)]
  ·rw[if_neg hk]
theorem nw_set_top(n a k x:Nat)(hx:x<18446744073709551616)(ha:a<pw k):
 (nw n a).setIfInBounds k (Value.int .u64 x)=nw n (a+x*pw k):=by
 have d:pw k≤pw (k+1):=by rw[pow_succ64];omega
 rw[nw_set n a k x hx,Nat.mod_eq_of_lt ha,Nat.div_eq_of_lt (show a<pw (k+1) by omega),Nat.zero_mul,Nat.add_zero]
theorem wd_zero(k:Nat):wd 0 k=0:=by simp[wd]
theorem nw_zero(n:Nat):nw n 0=((List.range n).map fun _=>Value.int .u64 0).toArray:=by simp[nw,wd_zero]
theorem nw9_zero:nw 9 0 =#[Value.int .u64 0,Value.int .u64 0,Value.int .u64 0,Value.int .u64 0,Value.int .u64 0,Value.int .u64 0,Value.int .u64 0,Value.int .u64 0,Value.int .u64 0]:=by rw[nw_zero];rfl
theorem fold9 : #[Value.int .u64 0,Value.int .u64 0,Value.int .u64 0,Value.int .u64 0,Value.int .u64 0,Value.int .u64 0,Value.int .u64 0,Value.int .u64 0,Value.int .u64 0]=nw 9 0:=nw9_zero.symm
theorem nw18_zero:nw 18 0 =#[Value.int .u64 0,Value.int .u64 0,Value.int .u64 0,Value.int .u64 0,Value.int .u64 0,Value.int .u64 0,Value.int .u64 0,Value.int .u64 0,Value.int .u64 0,Value.int .u64 0,Value.int .u64 0,Value.int .u64 0,Value.int .u64 0,Value.int .u64 0,Value.int .u64 0,Value.int .u64 0,Value.int .u64 0,Value.int .u64 0]:=by rw[nw_zero];rfl
theorem nw9_lit(s:Nat) : #[Value.int .u64 ((wd s 0:Nat):Int),Value.int .u64 ((wd s 1:Nat):Int),Value.int .u64 ((wd s 2:Nat):Int),Value.int .u64 ((wd s 3:Nat):Int),Value.int .u64 ((wd s 4:Nat):Int),Value.int .u64 ((wd s 5:Nat):Int),Value.int .u64 ((wd s 6:Nat):Int),Value.int .u64 ((wd s 7:Nat):Int),Value.int .u64 ((wd s 8:Nat):Int)]=nw 9 s:=rfl
theorem fold18 : #[Value.int .u64 0,Value.int .u64 0,Value.int .u64 0,Value.int .u64 0,Value.int .u64 0,Value.int .u64 0,Value.int .u64 0,Value.int .u64 0,Value.int .u64 0,Value.int .u64 0,Value.int .u64 0,Value.int .u64 0,Value.int .u64 0,Value.int .u64 0,Value.int .u64 0,Value.int .u64 0,Value.int .u64 0,Value.int .u64 0]=nw 18 0:=nw18_zero.symm
def M:Nat:=pw 9
def subC(a b k:Nat):Nat:=if a%pw k<b%pw k then 1 else 0
def subS(a b k:Nat):Nat:=a%pw k+subC a b k*pw k-b%pw k
theorem subC_le(a b k:Nat):subC a b k≤1:=by unfold subC;split <;> omega
theorem subS_lt(a b k:Nat):subS a b k<pw k:=by
 have d:=Nat.mod_lt a (pow_pos64 k);unfold subS subC
 split <;> omega
theorem subC_succ(a b k:Nat):subC a b (k+1)=if wd a k<wd b k+subC a b k then 1 else 0:=by
 have d:=Nat.mod_lt a (pow_pos64 k);have f:=Nat.mod_lt b (pow_pos64 k);unfold subC;rw[mod_succ,mod_succ];generalize pw k=P at *;generalize a%P=r at *;generalize b%P=s at *;generalize wd a k=x;generalize wd b k=y
 rcases Nat.lt_trichotomy x y with h|h|h
 ·have:(x+1)*P≤y*P:=Nat.mul_le_mul_right _ h;rw[Nat.add_mul]at this;rw[if_pos (by omega),if_pos (by split <;> omega)]
 ·subst h
  by_cases hr:r<s
  ·rw[if_pos (by omega),if_pos (by rw[if_pos hr];omega)]
  ·rw[if_neg (by omega),if_neg (by rw[if_neg hr];omega)]
 ·have:(y+1)*P≤x*P:=Nat.mul_le_mul_right _ h;rw[Nat.add_mul]at this;rw[if_neg (by omega),if_neg (by split <;> omega)]
theorem subS_succ(a b k:Nat):subS a b (k+1)=subS a b k+(wd a k+18446744073709551616-wd b k-subC a b k)%18446744073709551616*pw k:=by
 have A:=Nat.mod_lt a (pow_pos64 k);have C:=Nat.mod_lt b (pow_pos64 k);have D:=wd_lt a k;have G:=wd_lt b k;have d:=subC_succ a b k;have H:=subS_lt a b k;have j:=subC_le a b k
 have e:subS a b k+b%pw k=a%pw k+subC a b k*pw k:=by
  unfold subS subC
  split <;> omega
 have i:subS a b (k+1)+b%pw (k+1)=a%pw (k+1)+subC a b (k+1)*pw (k+1):=by
  have I:=Nat.mod_lt b (pow_pos64 (k+1));unfold subS subC
  split <;> omega
 rw[mod_succ,mod_succ,pow_succ64]at i;generalize subS a b (k+1)=l at *;generalize subS a b k=S at *;generalize subC a b (k+1)=q at *;generalize subC a b k=c at *;generalize pw k=P at *;generalize a%P=r at *;generalize b%P=s at *;generalize wd a k=x at *;generalize wd b k=y at *
 -- l + s + y P = r + x P + q P B,  S + s = r + c P
 by_cases hl:x<y+c
 ·rw[if_pos hl]at d;subst d;obtain⟨z,f⟩:∃z,x+18446744073709551616=y+c+z:=⟨x+18446744073709551616-(y+c),by omega⟩
  have h:(x+18446744073709551616-y-c)%18446744073709551616=z:=by omega
  rw[h]
  have v:x*P+18446744073709551616*P=y*P+c*P+z*P:=by rw[←Nat.add_mul,←Nat.add_mul,←Nat.add_mul,f]
  rw[Nat.mul_comm P]at i
  omega
 ·rw[if_neg hl]at d;subst d;obtain⟨z,f⟩:∃z,x=y+c+z:=⟨x-(y+c),by omega⟩
  have h:(x+18446744073709551616-y-c)%18446744073709551616=z:=by omega
  rw[h]
  have v:x*P=y*P+c*P+z*P:=by rw[←Nat.add_mul,←Nat.add_mul,f]
  omega
theorem subC_int(a b k:Nat):(if((wd a k:Nat):Int)<(wd b k:Nat)+(subC a b k:Nat) then 1 else 0:Int)=((subC a b (k+1):Nat):Int):=by
 rw[subC_succ];split <;> split <;> omega
theorem subS_set(a b k:Nat):(nw 9 (subS a b k)).setIfInBounds k (Value.int .u64 (((wd a k:Nat)-(wd b k:Nat)-(subC a b k:Nat):Int)%18446744073709551616))=nw 9 (subS a b (k+1)):=by
 have d:=wd_lt b k;have f:=subC_le a b k
 have e:((wd a k:Nat)-(wd b k:Nat)-(subC a b k:Nat):Int)%18446744073709551616=(((wd a k+18446744073709551616-wd b k-subC a b k)%18446744073709551616:Nat):Int):=by omega
 rw[e,nw_set_top 9 _ k _ (Nat.mod_lt _ (by decide)) (subS_lt a b k),subS_succ]
theorem subS_zero(a b:Nat):subS a b 0=0:=by simp[subS,subC,pw_zero,Nat.mod_one]
theorem subC_zero(a b:Nat):subC a b 0=0:=by simp[subC,pw_zero,Nat.mod_one]
theorem subS_M(a b:Nat)(ha:a<M)(hb:b<M):subS a b 9=(a+M-b)%M:=by
 unfold subS subC;rw[show pw 9=M from rfl,Nat.mod_eq_of_lt ha,Nat.mod_eq_of_lt hb]
 split
 ·rw[Nat.one_mul,Nat.mod_eq_of_lt (by omega)]
 ·rw[Nat.zero_mul,Nat.add_zero,show a+M-b=a-b+M from by omega,Nat.add_mod_right,Nat.mod_eq_of_lt (by omega)]
theorem subC_M(a b:Nat)(ha:a<M)(hb:b<M):(((subC a b 9:Nat):Int) != 0)=decide (a<b):=by
 grind [subC,pw,M,Nat.mod_eq_of_lt]
end
end Go.Proofs.Ytonbpnbhjghfbaa