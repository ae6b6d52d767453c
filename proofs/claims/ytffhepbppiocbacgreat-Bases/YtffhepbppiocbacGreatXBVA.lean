import Derived.WalkKit
import Derived.Test.YtffhepbppiocbacGreatRows
namespace Go.Proofs.YtffhepbppiocbacGreat
open Go.RowKit
set_option maxRecDepth 100000
set_option maxHeartbeats 8000000
section
def pw(k:Nat):Nat:=2^(64*k)
theorem pw_pos(k:Nat):0<pw k:=Nat.two_pow_pos _
theorem pw_zero:pw 0=1:=rfl
theorem pw_add(j k:Nat):pw (j+k)=pw j*pw k:=by
 unfold pw
 grind
theorem pw_one:pw 1=18446744073709551616:=rfl
def wd(a k:Nat):Nat:=a/pw k%18446744073709551616
def nw(n a:Nat):Array Value:=((List.range n).map fun k=>Value.int .u64 ((wd a k:Nat):Int)).toArray
theorem wd_lt(a k:Nat):wd a k<18446744073709551616:=Nat.mod_lt _ (by decide)
theorem nw_size(n a:Nat):(nw n a).size=n:=by simp[nw]
theorem nw_get(n a k:Nat)(h:k<n):(nw n a)[k]? = some (Value.int .u64 ((wd a k:Nat):Int)):=by
 simp[nw,h]
theorem nw_elem(n a k:Nat)(h:k<(nw n a).size):(nw n a)[k]=Value.int .u64 ((wd a k:Nat):Int):=by
 simp[nw]
theorem pow_succ64(k:Nat):pw (k+1)=pw k*18446744073709551616:=by
 rw[pw_add,pw_one]
theorem parts(a k:Nat):a=a%pw k+wd a k*pw k+a/pw (k+1)*pw (k+1):=by
 grind [Nat.div_add_mod,pw,Nat.div_div_eq_div_mul,pow_succ64,wd,Nat.mul_add,Nat.mul_comm,Nat.mul_assoc,Nat.add_comm]
theorem mod_succ(a k:Nat):a%pw (k+1)=a%pw k+wd a k*pw k:=by
 rw[pow_succ64,Nat.mod_mul,wd,Nat.mul_comm (pw k)]
theorem pow_pos64(k:Nat):0<pw k:=pw_pos k
theorem div_at(r t P:Nat)(h:r<P):(r+t*P)/P=t:=by
 rw[Nat.add_mul_div_right _ _ (by omega),Nat.div_eq_of_lt h,Nat.zero_add]
theorem mod_at(r t P:Nat)(h:r<P):(r+t*P)%P=r:=by
 rw[Nat.add_mul_mod_self_right,Nat.mod_eq_of_lt h]
theorem div_at2(r t P B:Nat)(h:r<P):(r+t*P)/(P*B)=t/B:=by
 rw[←Nat.div_div_eq_div_mul,div_at r t P h]
theorem mod_at2(r t P B:Nat)(h:r<P):(r+t*P)%(P*B)=r+t%B*P:=by
 rw[Nat.mod_mul,mod_at r t P h,div_at r t P h,Nat.mul_comm]
theorem wd_set(a k x j:Nat)(hx:x<18446744073709551616):
 wd (a%pw k+x*pw k+a/pw (k+1)*pw (k+1)) j=if j=k then x else wd a j:=by
 have i:a%pw k<pw k:=Nat.mod_lt _ (pow_pos64 k)
 have e:a%pw k+x*pw k+a/pw (k+1)*pw (k+1)=a%pw k+(x+a/pw (k+1)*18446744073709551616)*pw k:=by
  rw[Nat.add_mul,Nat.mul_assoc _ 18446744073709551616,Nat.mul_comm 18446744073709551616,←pow_succ64,Nat.add_assoc]
 rcases Nat.lt_trichotomy j k with h|h|h
 ·rw[if_neg (by omega)];rw[e];generalize x+a/pw (k+1)*18446744073709551616=t;obtain⟨d,rfl⟩:∃d,k=j+1+d:=⟨k-(j+1),by omega⟩;unfold wd
  have q:pw (j+1+d)=pw j*(18446744073709551616*pw d):=by
   rw[pw_add,pw_add,pw_one,Nat.mul_assoc]
  rw[q,←Nat.mul_assoc t,Nat.mul_right_comm t,Nat.add_mul_div_right _ _ (pow_pos64 j),Nat.mod_mul_right_div_self,Nat.mul_left_comm,Nat.add_mul_mod_self_left,Nat.mod_mul_right_mod]
 ·subst h;rw[if_pos rfl];rw[e];unfold wd;rw[div_at _ _ _ i,Nat.add_mul_mod_self_right,Nat.mod_eq_of_lt hx]
 ·rw[if_neg (by omega)];obtain⟨d,rfl⟩:∃d,j=k+1+d:=⟨j-(k+1),by omega⟩;unfold wd
  have q:pw (k+1+d)=pw (k+1)*pw d:=by
   rw[pw_add]
  have f:a%pw k+x*pw k<pw (k+1):=by
   rw[pow_succ64];have:x*pw k≤18446744073709551615*pw k:=Nat.mul_le_mul_right _ (by omega)
   omega
  rw[q,←Nat.div_div_eq_div_mul,←Nat.div_div_eq_div_mul,div_at _ _ _ f]
theorem nw_set(n a k x:Nat)(hx:x<18446744073709551616):
 (nw n a).setIfInBounds k (Value.int .u64 x)=nw n (a%pw k+x*pw k+a/pw (k+1)*pw (k+1)):=by
 apply Array.ext_getElem?
 intro j;rw[Array.getElem?_setIfInBounds]
 by_cases hj:j<n
 ·by_cases hk:k=j
  ·subst hk;rw[if_pos rfl,nw_get _ _ _ hj,wd_set a k x k hx,if_pos rfl,if_pos (by simpa [nw_size]using hj)]
  ·rw[if_neg hk,nw_get _ _ _ hj,nw_get _ _ _ hj,wd_set a k x j hx,if_neg (by omega)]
 ·have d:(nw n a)[j]? = none:=by simp[nw];omega
  have f:(nw n (a%pw k+x*pw k+a/pw (k+1)*pw (k+1)))[j]? = none:=by simp[nw];omega
  rw[d,f]
  by_cases hk:k=j
  ·rw[if_pos hk,if_neg (by simp[nw_size];omega)]
  ·rw[if_neg hk]
theorem nw_set_top(n a k x:Nat)(hx:x<18446744073709551616)(ha:a<pw k):
 (nw n a).setIfInBounds k (Value.int .u64 x)=nw n (a+x*pw k):=by
 have d:pw k≤pw (k+1):=by rw[pow_succ64];omega
 rw[nw_set n a k x hx,Nat.mod_eq_of_lt ha,Nat.div_eq_of_lt (show a<pw (k+1) by omega),Nat.zero_mul,Nat.add_zero]
theorem wd_zero(k:Nat):wd 0 k=0:=by simp[wd]
theorem nw_zero(n:Nat):nw n 0=((List.range n).map fun _=>Value.int .u64 0).toArray:=by simp[nw,wd_zero]
theorem nw9_zero:nw 9 0 =#[Value.int .u64 0,Value.int .u64 0,Value.int .u64 0,Value.int .u64 0,Value.int .u64 0,Value.int .u64 0,Value.int .u64 0,Value.int .u64 0,Value.int .u64 0]:=by rw[nw_zero];rfl
theorem fold9 : #[Value.int .u64 0,Value.int .u64 0,Value.int .u64 0,Value.int .u64 0,Value.int .u64 0,Value.int .u64 0,Value.int .u64 0,Value.int .u64 0,Value.int .u64 0]=nw 9 0:=nw9_zero.symm
theorem nw18_zero:nw 18 0 =#[Value.int .u64 0,Value.int .u64 0,Value.int .u64 0,Value.int .u64 0,Value.int .u64 0,Value.int .u64 0,Value.int .u64 0,Value.int .u64 0,Value.int .u64 0,Value.int .u64 0,Value.int .u64 0,Value.int .u64 0,Value.int .u64 0,Value.int .u64 0,Value.int .u64 0,Value.int .u64 0,Value.int .u64 0,Value.int .u64 0]:=by rw[nw_zero];rfl
theorem nw9_lit(s:Nat) : #[Value.int .u64 ((wd s 0:Nat):Int),Value.int .u64 ((wd s 1:Nat):Int),Value.int .u64 ((wd s 2:Nat):Int),Value.int .u64 ((wd s 3:Nat):Int),Value.int .u64 ((wd s 4:Nat):Int),Value.int .u64 ((wd s 5:Nat):Int),Value.int .u64 ((wd s 6:Nat):Int),Value.int .u64 ((wd s 7:Nat):Int),Value.int .u64 ((wd s 8:Nat):Int)]=nw 9 s:=rfl
theorem nw18_lit(s:Nat) : #[Value.int .u64 ((wd s 0:Nat):Int),Value.int .u64 ((wd s 1:Nat):Int),Value.int .u64 ((wd s 2:Nat):Int),Value.int .u64 ((wd s 3:Nat):Int),Value.int .u64 ((wd s 4:Nat):Int),Value.int .u64 ((wd s 5:Nat):Int),Value.int .u64 ((wd s 6:Nat):Int),Value.int .u64 ((wd s 7:Nat):Int),Value.int .u64 ((wd s 8:Nat):Int),Value.int .u64 ((wd s 9:Nat):Int),Value.int .u64 ((wd s 10:Nat):Int),Value.int .u64 ((wd s 11:Nat):Int),Value.int .u64 ((wd s 12:Nat):Int),Value.int .u64 ((wd s 13:Nat):Int),Value.int .u64 ((wd s 14:Nat):Int),Value.int .u64 ((wd s 15:Nat):Int),Value.int .u64 ((wd s 16:Nat):Int),Value.int .u64 ((wd s 17:Nat):Int)]=nw 18 s:=rfl
theorem fold18 : #[Value.int .u64 0,Value.int .u64 0,Value.int .u64 0,Value.int .u64 0,Value.int .u64 0,Value.int .u64 0,Value.int .u64 0,Value.int .u64 0,Value.int .u64 0,Value.int .u64 0,Value.int .u64 0,Value.int .u64 0,Value.int .u64 0,Value.int .u64 0,Value.int .u64 0,Value.int .u64 0,Value.int .u64 0,Value.int .u64 0]=nw 18 0:=nw18_zero.symm
def M:Nat:=pw 9
theorem M_pos:0<M:=pw_pos 9
def addS(a b k:Nat):Nat:=(a%pw k+b%pw k)%pw k
def addC(a b k:Nat):Nat:=(a%pw k+b%pw k)/pw k
theorem addS_lt(a b k:Nat):addS a b k<pw k:=Nat.mod_lt _ (pow_pos64 k)
theorem addC_le(a b k:Nat):addC a b k≤1:=by
 have d:=Nat.mod_lt a (pow_pos64 k);have f:=Nat.mod_lt b (pow_pos64 k);unfold addC;generalize pw k=P at *
 have:(a%P+b%P)/P<2:=by rw[Nat.div_lt_iff_lt_mul (by omega)];omega
 omega
theorem add_eq(a b k:Nat):a%pw (k+1)+b%pw (k+1)=addS a b k+(wd a k+wd b k+addC a b k)*pw k:=by
 rw[mod_succ,mod_succ,addS,addC];have h:=Nat.div_add_mod (a%pw k+b%pw k) (pw k);generalize pw k=P at *;generalize (a%P+b%P)/P=q at *;generalize (a%P+b%P)%P=r at *;rw[Nat.add_mul,Nat.add_mul,Nat.mul_comm q]
 omega
theorem addS_succ(a b k:Nat):addS a b (k+1)=addS a b k+(wd a k+wd b k+addC a b k)%18446744073709551616*pw k:=by
 rw[addS,add_eq,pow_succ64,mod_at2 _ _ _ _ (addS_lt a b k)]
theorem addC_succ(a b k:Nat):addC a b (k+1)=(wd a k+wd b k+addC a b k)/18446744073709551616:=by
 rw[addC,add_eq,pow_succ64,div_at2 _ _ _ _ (addS_lt a b k)]
theorem addC_int(a b k:Nat):((wd a k:Nat)+(wd b k:Nat)+(addC a b k:Nat):Int)/18446744073709551616=((addC a b (k+1):Nat):Int):=by
 rw[addC_succ];omega
theorem addS_set(a b k:Nat):(nw 9 (addS a b k)).setIfInBounds k (Value.int .u64 (((wd a k:Nat)+(wd b k:Nat)+(addC a b k:Nat):Int)%18446744073709551616))=nw 9 (addS a b (k+1)):=by
 have e:((wd a k:Nat)+(wd b k:Nat)+(addC a b k:Nat):Int)%18446744073709551616=(((wd a k+wd b k+addC a b k)%18446744073709551616:Nat):Int):=by omega
 rw[e,nw_set_top 9 _ k _ (Nat.mod_lt _ (by decide)) (addS_lt a b k),addS_succ]
theorem addS_zero(a b:Nat):addS a b 0=0:=by simp[addS,pw_zero,Nat.mod_one]
theorem addC_zero(a b:Nat):addC a b 0=0:=by simp[addC,pw_zero,Nat.mod_one]
theorem addS_M(a b:Nat)(ha:a<M)(hb:b<M):addS a b 9=(a+b)%M:=by
 unfold addS;rw[show pw 9=M from rfl,Nat.mod_eq_of_lt ha,Nat.mod_eq_of_lt hb]
theorem addC_M(a b:Nat)(ha:a<M)(hb:b<M):(((addC a b 9:Nat):Int) != 0)=decide (M≤a+b):=by
 unfold addC;rw[show pw 9=M from rfl,Nat.mod_eq_of_lt ha,Nat.mod_eq_of_lt hb];have d:=M_pos
 by_cases h:M≤a+b
 ·have f:=Nat.div_pos h d;rw[decide_eq_true h,bne_iff_ne]
  omega
 ·rw[Nat.div_eq_of_lt (by omega),decide_eq_false h]
  rfl
def subC(a b k:Nat):Nat:=if a%pw k<b%pw k then 1 else 0
def subS(a b k:Nat):Nat:=a%pw k+subC a b k*pw k-b%pw k
theorem subC_le(a b k:Nat):subC a b k≤1:=by unfold subC;split <;> omega
theorem subS_lt(a b k:Nat):subS a b k<pw k:=by
 have d:=Nat.mod_lt a (pow_pos64 k);unfold subS subC
 split <;> omega
theorem subC_succ(a b k:Nat):subC a b (k+1)=if wd a k<wd b k+subC a b k then 1 else 0:=by
 have d:=Nat.mod_lt a (pow_pos64 k);have f:=Nat.mod_lt b (pow_pos64 k);unfold subC;rw[mod_succ,mod_succ];generalize pw k=P at *;generalize a%P=r at *;generalize b%P=s at *;generalize wd a k=x;generalize wd b k=y
 rcases Nat.lt_trichotomy x y with h|h|h
 ·have:(x+1)*P≤y*P:=Nat.mul_le_mul_right _ h;rw[Nat.add_mul]at this;rw[if_pos (by omega),if_pos (by split <;> omega)]
 ·subst h
  by_cases hr:r<s
  ·rw[if_pos (by omega),if_pos (by rw[if_pos hr];omega)]
  ·rw[if_neg (by omega),if_neg (by rw[if_neg hr];omega)]
 ·have:(y+1)*P≤x*P:=Nat.mul_le_mul_right _ h;rw[Nat.add_mul]at this;rw[if_neg (by omega),if_neg (by split <;> omega)]
theorem subS_succ(a b k:Nat):subS a b (k+1)=subS a b k+(wd a k+18446744073709551616-wd b k-subC a b k)%18446744073709551616*pw k:=by
 have D:=Nat.mod_lt a (pow_pos64 k);have G:=Nat.mod_lt b (pow_pos64 k);have H:=wd_lt a k;have I:=wd_lt b k;have d:=subC_succ a b k;have J:=subS_lt a b k;have j:=subC_le a b k
 have e:subS a b k+b%pw k=a%pw k+subC a b k*pw k:=by
  unfold subS subC
  split <;> omega
 have i:subS a b (k+1)+b%pw (k+1)=a%pw (k+1)+subC a b (k+1)*pw (k+1):=by
  have K:=Nat.mod_lt b (pow_pos64 (k+1));unfold subS subC
  split <;> omega
 rw[mod_succ,mod_succ,pow_succ64]at i;generalize subS a b (k+1)=q at *;generalize subS a b k=S at *;generalize subC a b (k+1)=A at *;generalize subC a b k=c at *;generalize pw k=P at *;generalize a%P=r at *;generalize b%P=s at *;generalize wd a k=x at *;generalize wd b k=y at *
 -- q + s + y P = r + x P + A P B,  S + s = r + c P
 by_cases hl:x<y+c
 ·rw[if_pos hl]at d;subst d;obtain⟨z,f⟩:∃z,x+18446744073709551616=y+c+z:=⟨x+18446744073709551616-(y+c),by omega⟩
  have h:(x+18446744073709551616-y-c)%18446744073709551616=z:=by omega
  rw[h]
  have C:x*P+18446744073709551616*P=y*P+c*P+z*P:=by rw[←Nat.add_mul,←Nat.add_mul,←Nat.add_mul,f]
  rw[Nat.mul_comm P]at i
  omega
 ·rw[if_neg hl]at d;subst d;obtain⟨z,f⟩:∃z,x=y+c+z:=⟨x-(y+c),by omega⟩
  have h:(x+18446744073709551616-y-c)%18446744073709551616=z:=by omega
  rw[h]
  have C:x*P=y*P+c*P+z*P:=by rw[←Nat.add_mul,←Nat.add_mul,f]
  omega
theorem subC_int(a b k:Nat):(if((wd a k:Nat):Int)<(wd b k:Nat)+(subC a b k:Nat) then 1 else 0:Int)=((subC a b (k+1):Nat):Int):=by
 rw[subC_succ];split <;> split <;> omega
theorem subS_set(a b k:Nat):(nw 9 (subS a b k)).setIfInBounds k (Value.int .u64 (((wd a k:Nat)-(wd b k:Nat)-(subC a b k:Nat):Int)%18446744073709551616))=nw 9 (subS a b (k+1)):=by
 have d:=wd_lt b k;have f:=subC_le a b k
 have e:((wd a k:Nat)-(wd b k:Nat)-(subC a b k:Nat):Int)%18446744073709551616=(((wd a k+18446744073709551616-wd b k-subC a b k)%18446744073709551616:Nat):Int):=by omega
 rw[e,nw_set_top 9 _ k _ (Nat.mod_lt _ (by decide)) (subS_lt a b k),subS_succ]
theorem subS_zero(a b:Nat):subS a b 0=0:=by simp[subS,subC,pw_zero,Nat.mod_one]
theorem subC_zero(a b:Nat):subC a b 0=0:=by simp[subC,pw_zero,Nat.mod_one]
theorem subS_M(a b:Nat)(ha:a<M)(hb:b<M):subS a b 9=(a+M-b)%M:=by
 unfold subS subC;rw[show pw 9=M from rfl,Nat.mod_eq_of_lt ha,Nat.mod_eq_of_lt hb]
 split
 ·rw[Nat.one_mul,Nat.mod_eq_of_lt (by omega)]
 ·rw[Nat.zero_mul,Nat.add_zero,show a+M-b=a-b+M from by omega,Nat.add_mod_right,Nat.mod_eq_of_lt (by omega)]
theorem subC_M(a b:Nat)(ha:a<M)(hb:b<M):(((subC a b 9:Nat):Int) != 0)=decide (a<b):=by
 grind [subC,pw,M,Nat.mod_eq_of_lt]
theorem pw_mono(j d:Nat):pw j≤pw (j+d):=by
 rw[pw_add];exact Nat.le_mul_of_pos_right _ (pw_pos d)
theorem lt_M(a:Nat)(h:a<18446744073709551616):a<M:=Nat.lt_of_lt_of_le h (pw_mono 1 8)
end
section
def wset(V p x:Nat):Nat:=V%pw p+x*pw p+V/pw (p+1)*pw (p+1)
theorem nw_wset(n V p x:Nat)(hx:x<18446744073709551616):(nw n V).setIfInBounds p (Value.int .u64 x)=nw n (wset V p x):=nw_set n V p x hx
theorem wset_lt(V p x q:Nat)(hV:V<pw q)(hp:p<q)(hx:x<18446744073709551616):wset V p x<pw q:=by
 obtain⟨m,rfl⟩:∃m,q=m+(p+1):=⟨q-(p+1),by omega⟩;have h:V%pw p<pw p:=Nat.mod_lt _ (pw_pos p)
 have d:V/pw (p+1)<pw m:=by
  rw[Nat.div_lt_iff_lt_mul (pw_pos _),←pw_add];exact hV
 have i:x*pw p≤18446744073709551615*pw p:=Nat.mul_le_mul_right _ (by omega);have f:(V/pw (p+1)+1)*pw (p+1)≤pw m*pw (p+1):=Nat.mul_le_mul_right _ d;have j:=pow_succ64 p;unfold wset;rw[pw_add m (p+1)];rw[Nat.add_mul]at f;generalize V/pw (p+1)*pw (p+1)=z at *;generalize pw m*pw (p+1)=t at *
 omega
theorem mul_step(a b i j V c:Nat)(h:V+c*pw (i+j)=(a%pw i)*b+wd a i*pw i*(b%pw j)):
 wset V (i+j) ((wd a i*wd b j+wd V (i+j)+c)%18446744073709551616)+(wd a i*wd b j+wd V (i+j)+c)/18446744073709551616*pw (i+(j+1))=(a%pw i)*b+wd a i*pw i*(b%pw (j+1)):=by
 have B:=parts V (i+j);have d:=Nat.div_add_mod (wd a i*wd b j+wd V (i+j)+c) 18446744073709551616;rw[mod_succ b j,Nat.mul_add,←Nat.add_assoc ((a%pw i)*b),←h]
 have f:wd a i*pw i*(wd b j*pw j)=wd a i*wd b j*pw (i+j):=by
  rw[pw_add,Nat.mul_mul_mul_comm]
 rw[f];unfold wset;rw[show i+(j+1)=i+j+1 from rfl];generalize V/pw (i+j+1)=z at *;rw[pow_succ64 (i+j)]at *;generalize wd V (i+j)=o at *;generalize wd a i*wd b j=m at *;generalize (m+o+c)/18446744073709551616=q at *;generalize (m+o+c)%18446744073709551616=r at *;generalize V%pw (i+j)=v at *;generalize pw (i+j)=P at *
 have x:(18446744073709551616*q+r)*P=(m+o+c)*P:=by rw[d]
 rw[Nat.add_mul,Nat.add_mul,Nat.add_mul]at x
 have A:q*(P*18446744073709551616)=18446744073709551616*q*P:=by
  rw[Nat.mul_comm P,←Nat.mul_assoc,Nat.mul_comm q]
 rw[A]
 omega
theorem mul_last(a b i V c:Nat)(hb:b<M)(h:V+c*pw (i+9)=(a%pw i)*b+wd a i*pw i*(b%pw 9)):V+c*pw (i+9)=(a%pw (i+1))*b:=by
 have e:b%pw 9=b:=Nat.mod_eq_of_lt hb;rw[h,e,mod_succ,Nat.add_mul]
theorem mul_bound(a b i:Nat)(hb:b<M):(a%pw i)*b<pw (i+9):=by
 have d:a%pw i<pw i:=Nat.mod_lt _ (pw_pos i);rw[pw_add]
 show _<pw i*M
 have f:(a%pw i)*b≤(a%pw i)*M:=Nat.mul_le_mul_left _ (by omega);have h:=Nat.mul_lt_mul_of_pos_right d M_pos
 omega
theorem mulAdd_lt(x y o c:Nat)(hx:x<18446744073709551616)(hy:y<18446744073709551616)(ho:o<18446744073709551616)(hc:c<18446744073709551616):(x*y+o+c)/18446744073709551616<18446744073709551616:=by
 have:x*y≤18446744073709551615*18446744073709551615:=Nat.mul_le_mul (by omega) (by omega)
 omega
end
section
def dgw(w k i:Nat):Nat:=k/2^(w*i)%2^w
theorem dgw_lt(w k i:Nat):dgw w k i<2^w:=Nat.mod_lt _ (Nat.two_pow_pos w)
theorem dgw_top(w k i:Nat):k/2^(w*i)=k/2^(w*(i+1))*2^w+dgw w k i:=by
 rw[Nat.mul_succ,Nat.pow_add,←Nat.div_div_eq_div_mul];exact(Nat.div_add_mod' _ _).symm
theorem dgw_past{w k m:Nat}(h:k<2^(w*m)):k/2^(w*m)=0:=Nat.div_eq_of_lt h
def hor(w:Nat)(f:Nat→Nat):Nat→Nat
 | 0=>0
 | j+1=>hor w f j*2^w+f j
theorem hor_dgw{w k m:Nat}(h:k<2^(w*m)):∀j,j≤m→hor w (fun i=>dgw w k (m-1-i)) j=k/2^(w*(m-j))
 | 0,_=>by rw[Nat.sub_zero,dgw_past h];rfl
 | j+1,hj=>by
  rw[hor,hor_dgw h j (by omega),dgw_top w k (m-(j+1)),show m-(j+1)+1=m-j by omega,show m-1-j=m-(j+1) by omega]
theorem hor_all{w k m:Nat}(h:k<2^(w*m)):hor w (fun i=>dgw w k (m-1-i)) m=k:=by
 rw[hor_dgw h m (Nat.le_refl _),Nat.sub_self,Nat.mul_zero,Nat.pow_zero,Nat.div_one]
theorem hor_congr{w:Nat}{f g:Nat→Nat}:∀{j:Nat},(∀i,i<j→f i=g i)→hor w f j=hor w g j
 | 0,_=>rfl
 | j+1,h=>by rw[hor,hor,hor_congr fun i hi=>h i (by omega),h j (by omega)]
theorem hor_le(w:Nat)(f:Nat→Nat)(j:Nat):hor w f j≤hor w f (j+1):=by
 rw[hor];exact Nat.le_trans (Nat.le_mul_of_pos_right _ (Nat.two_pow_pos w)) (Nat.le_add_right _ _)
theorem hor_mono(w:Nat)(f:Nat→Nat){i:Nat}:∀{j:Nat},i≤j→hor w f i≤hor w f j
 | 0,h=>by rw[show i=0 by omega];exact Nat.le_refl _
 | j+1,h=>by
  by_cases e:i=j+1
  ·rw[e];exact Nat.le_refl _
  ·exact Nat.le_trans (hor_mono w f (by omega)) (hor_le w f j)
theorem many_le{w b:Nat}(hw:1≤w):b≤w*((b+w-1)/w):=by
 have h:=Nat.div_add_mod (b+w-1) w;have d:=Nat.mod_lt (b+w-1) (show 0<w by omega)
 omega
theorem many_lt{w b k:Nat}(hw:1≤w)(h:k<2^b):k<2^(w*((b+w-1)/w)):=Nat.lt_of_lt_of_le h (Nat.pow_le_pow_right (by decide) (many_le hw))
end
end Go.Proofs.YtffhepbppiocbacGreat