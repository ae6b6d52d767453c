import Derived.Laws.Bits64b
import Derived.Test.YtffhepbppiocbacGreatXBVA
namespace Go.Proofs.YtffhepbppiocbacGreat
open Go.RowKit
set_option maxRecDepth 100000
set_option maxHeartbeats 8000000
section
theorem pow64(p:Nat)(h:p≤64):2^(64-p)*2^p=18446744073709551616:=by
 rw[←Nat.pow_add,show 64-p+p=64 from by omega]
theorem int_pow(p:Nat):(2:Int)^p=((2^p:Nat):Int):=by simp
theorem or_add(x d p:Nat)(hd:d<2^p):x*2^p|||d=x*2^p+d:=by
 rw[←Nat.shiftLeft_eq,Nat.shiftLeft_add_eq_or_of_lt hd]
theorem shl_mod(x p:Nat)(hp:p≤64):x*2^p%18446744073709551616=(x%2^(64-p))*2^p:=by
 rw[←pow64 p hp,Nat.mul_mod_mul_right]
theorem shl_div(x p:Nat)(hp:p≤64):x*2^p/18446744073709551616=x/2^(64-p):=by
 rw[←pow64 p hp,Nat.mul_div_mul_right _ _ (Nat.two_pow_pos p)]
theorem shl_lt(x d p:Nat)(hp:p≤64)(hd:d<2^p):x*2^p%18446744073709551616+d<18446744073709551616:=by
 rw[shl_mod x p hp];have f:=Nat.mod_lt x (Nat.two_pow_pos (64-p));have h:=pow64 p hp;have i:(x%2^(64-p)+1)*2^p≤2^(64-p)*2^p:=Nat.mul_le_mul_right _ f
 grind
theorem pow_lt64(p:Nat)(hp:p<64):2^p<18446744073709551616:=by
 have:=Nat.pow_lt_pow_right (a:=2) (by decide) hp;exact this
theorem shl_word(x d p:Nat)(hp:p<64)(hd:d<2^p):
 bits BinOp.or IntKind.u64 (IntKind.u64.wrap ((x:Int)*2^p)) (d:Int)=((x*2^p%18446744073709551616+d:Nat):Int):=by
 have e:IntKind.u64.wrap ((x:Int)*2^p)=((x*2^p%18446744073709551616:Nat):Int):=by
  rw[IntKind.wrap_u64,int_pow,←Int.natCast_mul];omega
 have f:=pow_lt64 p hp;rw[e,bits_or_u64_nat _ _ (Nat.mod_lt _ (by decide)) (by omega),shl_mod x p (by omega),or_add _ _ _ hd]
theorem shl_carry(x p:Nat)(hp:p<64):(x:Int)/2^(64-p)=((x*2^p/18446744073709551616:Nat):Int):=by
 rw[shl_div x p (by omega),int_pow,←Int.natCast_ediv]
theorem shl_carry_lt(x p:Nat)(hx:x<18446744073709551616):x*2^p/18446744073709551616<2^p:=by
 rw[Nat.div_lt_iff_lt_mul (by decide),Nat.mul_comm];exact Nat.mul_lt_mul_of_pos_left hx (Nat.two_pow_pos p)
theorem shl_step(a s p j U d:Nat)(h:U+d*pw (s+j)=(a%pw j)*(pw s*2^p)):
 U+(wd a j*2^p%18446744073709551616+d)*pw (s+j)+wd a j*2^p/18446744073709551616*pw (s+(j+1))=(a%pw (j+1))*(pw s*2^p):=by
 have f:=Nat.div_add_mod (wd a j*2^p) 18446744073709551616;rw[mod_succ,Nat.add_mul (a%pw j),←h]
 have i:wd a j*pw j*(pw s*2^p)=wd a j*2^p*pw (s+j):=by
  rw[pw_add,Nat.mul_assoc,Nat.mul_assoc,←Nat.mul_assoc (pw j),Nat.mul_comm (pw j*pw s),Nat.mul_comm (pw j)]
 rw[i,show s+(j+1)=s+j+1 from rfl,pow_succ64];generalize wd a j*2^p=m at *;generalize m/18446744073709551616=q at *;generalize m%18446744073709551616=r at *;generalize pw (s+j)=P at *
 have x:(18446744073709551616*q+r)*P=m*P:=by rw[f]
 rw[Nat.add_mul]at x
 have A:q*(P*18446744073709551616)=18446744073709551616*q*P:=by
  rw[Nat.mul_comm P,←Nat.mul_assoc,Nat.mul_comm q]
 rw[A,Nat.add_mul]
 omega
theorem shl_next_lt(U x n:Nat)(hU:U<pw n)(hx:x<18446744073709551616):U+x*pw n<pw (n+1):=by
 rw[pow_succ64];have:x*pw n≤18446744073709551615*pw n:=Nat.mul_le_mul_right _ (by omega)
 omega
theorem shl_end(a s p j U d:Nat)(hsj:s+j=9)(hU:U<pw (s+j))(h:U+d*pw (s+j)=(a%pw j)*(pw s*2^p)):a*2^(64*s+p)%M=U:=by
 have f:pw (s+j)=M:=by rw[hsj];rfl
 have i:=Nat.div_add_mod a (pw j)
 have e:a*2^(64*s+p)=U+(d+a/pw j*2^p)*M:=by
  rw[Nat.pow_add,show 2^(64*s)=pw s from rfl]
  have q:a*(pw s*2^p)=(pw j*(a/pw j)+a%pw j)*(pw s*2^p):=by rw[i]
  rw[q,Nat.add_mul,←h,Nat.add_mul,f,←f,pw_add]
  have x:pw j*(a/pw j)*(pw s*2^p)=a/pw j*2^p*(pw s*pw j):=by
   rw[Nat.mul_comm (pw j),Nat.mul_assoc,Nat.mul_assoc,←Nat.mul_assoc (pw j),Nat.mul_comm (pw j*pw s),Nat.mul_comm (pw j)]
  rw[x]
  omega
 rw[e,Nat.add_mul_mod_self_right,Nat.mod_eq_of_lt (by rw[←f];exact hU)]
theorem shr_word(x A p:Nat)(hx:x<18446744073709551616)(hp:p<64):
 bits BinOp.or IntKind.u64 ((x:Int)/2^p) (((A%2^p)*2^(64-p):Nat):Int)=((x/2^p+(A%2^p)*2^(64-p):Nat):Int):=by
 have f:=Nat.mod_lt A (Nat.two_pow_pos p);have d:=pow64 p (by omega);have h:(A%2^p+1)*2^(64-p)≤2^p*2^(64-p):=Nat.mul_le_mul_right _ f;rw[Nat.add_mul,Nat.mul_comm (2^p),d]at h;have j:=Nat.two_pow_pos (64-p)
 have i:x/2^p<2^(64-p):=by rw[Nat.div_lt_iff_lt_mul (Nat.two_pow_pos p),d];exact hx
 rw[int_pow,←Int.natCast_ediv,bits_or_u64_nat _ _ (by omega) (by omega),Nat.or_comm,or_add _ _ _ i,Nat.add_comm]
theorem shr_carry(x p:Nat)(hp:p<64):IntKind.u64.wrap ((x:Int)*2^(64-p))=(((x%2^p)*2^(64-p):Nat):Int):=by
 have e:=shl_mod x (64-p) (by omega);rw[show 64-(64-p)=p from by omega]at e;rw[←e,IntKind.wrap_u64,int_pow,←Int.natCast_mul]
 omega
theorem shr_word_lt(x A p:Nat)(hx:x<18446744073709551616)(hp:p<64):x/2^p+(A%2^p)*2^(64-p)<18446744073709551616:=by
 have f:=Nat.mod_lt A (Nat.two_pow_pos p);have d:=pow64 p (by omega);have h:(A%2^p+1)*2^(64-p)≤2^p*2^(64-p):=Nat.mul_le_mul_right _ f;rw[Nat.add_mul,Nat.mul_comm (2^p),d]at h
 have i:x/2^p<2^(64-p):=by rw[Nat.div_lt_iff_lt_mul (Nat.two_pow_pos p),d];exact hx
 omega
theorem shr_div(A x p:Nat)(hp:p<64):(A*18446744073709551616+x)/2^p=A/2^p*18446744073709551616+(x/2^p+(A%2^p)*2^(64-p)):=by
 have d:=pow64 p (by omega);have f:=Nat.div_add_mod A (2^p)
 have e:A*18446744073709551616+x=x+A*2^(64-p)*2^p:=by rw[Nat.mul_assoc,d];omega
 rw[e,Nat.add_mul_div_right _ _ (Nat.two_pow_pos p)]
 have h:A*2^(64-p)=A/2^p*18446744073709551616+(A%2^p)*2^(64-p):=by
  rw[←d,Nat.mul_comm (2^(64-p)),←Nat.mul_assoc,←Nat.add_mul,Nat.mul_comm (A/2^p),f]
 rw[h]
 omega
theorem shr_mod(A x p:Nat)(hp:p<64):(A*18446744073709551616+x)%2^p=x%2^p:=by
 have d:=pow64 p (by omega);rw[←d,←Nat.mul_assoc,Nat.add_comm,Nat.add_mul_mod_self_right]
theorem div_step'(a j:Nat):a/pw j=a/pw (j+1)*18446744073709551616+wd a j:=by
 rw[pow_succ64,←Nat.div_div_eq_div_mul,wd]
 omega
theorem shr_step(a p n m:Nat)(hp:p<64):
 a/pw (n+1)/2^p*pw (m+1)+(wd a n/2^p+(a/pw (n+1)%2^p)*2^(64-p))*pw m=a/pw n/2^p*pw m:=by
 rw[div_step' a n,shr_div _ _ p hp,pow_succ64 m];generalize wd a n/2^p+(a/pw (n+1)%2^p)*2^(64-p)=t;generalize a/pw (n+1)/2^p=H;rw[Nat.add_mul,Nat.mul_comm (pw m),Nat.mul_assoc]
theorem nw_set_low(N H m x:Nat)(hx:x<18446744073709551616):(nw N (H*pw (m+1))).setIfInBounds m (Value.int .u64 x)=nw N (H*pw (m+1)+x*pw m):=by
 have d:H*pw (m+1)%pw m=0:=by rw[pow_succ64,←Nat.mul_assoc,Nat.mul_right_comm,Nat.mul_mod_left]
 have f:H*pw (m+1)/pw (m+1)=H:=Nat.mul_div_cancel _ (pw_pos _);rw[nw_set N _ m x hx,d,f,Nat.zero_add,Nat.add_comm]
end
section
theorem wset_eq(V p x:Nat):wset V p x+wd V p*pw p=V+x*pw p:=by
 grind [parts,wset]
theorem sub_step(V0 V D t o i carry bor y low carry' bor':Nat)(h:V+t*(D%pw i)*pw o=V0+(carry+bor)*pw (o+i))(hl:low+carry'*18446744073709551616=t*wd D i+carry)(hy:y+low+bor=wd V (o+i)+bor'*18446744073709551616):
 wset V (o+i) y+t*(D%pw (i+1))*pw o=V0+(carry'+bor')*pw (o+(i+1)):=by
 grind [wset_eq,mod_succ,pw,wd,wset]
theorem sub_last(V0 V E t o k carry bor y bor':Nat)(h:V+t*E*pw o=V0+(carry+bor)*pw (o+k))(hy:y+carry+bor=wd V (o+k)+bor'*18446744073709551616):
 wset V (o+k) y+t*E*pw o=V0+bor'*pw (o+(k+1)):=by
 grind [wset_eq,pw,wd,wset]
theorem back_step(V0 V D o i c y c':Nat)(h:V+c*pw (o+i)=V0+(D%pw i)*pw o)(hy:y+c'*18446744073709551616=wd V (o+i)+wd D i+c):
 wset V (o+i) y+c'*pw (o+(i+1))=V0+(D%pw (i+1))*pw o:=by
 have j:=wset_eq V (o+i) y;rw[mod_succ,show o+(i+1)=o+i+1 from rfl,pow_succ64];have f:=pw_add o i;generalize pw (o+i)=P at *;generalize D%pw i=E at *;generalize pw o=Q at *;generalize pw i=R at *;generalize wd D i=d at *;generalize wd V (o+i)=x at *;generalize wset V (o+i) y=Z at *;subst f
 grind
theorem back_last(V0 V E o k c y c':Nat)(h:V+c*pw (o+k)=V0+E*pw o)(hy:y+c'*18446744073709551616=wd V (o+k)+c):
 wset V (o+k) y+c'*pw (o+(k+1))=V0+E*pw o:=by
 have d:=wset_eq V (o+k) y;rw[show o+(k+1)=o+k+1 from rfl,pow_succ64];generalize pw (o+k)=P at *;generalize pw o=Q at *;generalize wd V (o+k)=x at *;generalize wset V (o+k) y=Z at *
 grind
theorem div_step2(a j:Nat):a/pw j=a/pw (j+1)*18446744073709551616+wd a j:=by
 unfold wd;rw[pow_succ64,←Nat.div_div_eq_div_mul]
 omega
theorem top_one(V j:Nat)(h:V<pw (j+1)):V/pw j=wd V j:=by
 rw[div_step2 V j,Nat.div_eq_of_lt h,Nat.zero_mul,Nat.zero_add]
theorem top_two(V j:Nat)(h:V<pw (j+2)):V/pw j=wd V (j+1)*18446744073709551616+wd V j:=by
 rw[div_step2 V j,top_one V (j+1) h]
theorem guess_ge(V D P1 Po top:Nat)(hP1:0<P1)(hPo:0<Po)(ht:0<top)(hD:top*P1≤D):V/(D*Po)≤V/(P1*Po)/top:=by
 rw[Nat.le_div_iff_mul_le ht,Nat.le_div_iff_mul_le (Nat.mul_pos hP1 hPo)];have h:=Nat.div_mul_le_self V (D*Po);generalize V/(D*Po)=q at *;have d:q*(top*P1*Po)≤q*(D*Po):=Nat.mul_le_mul_left _ (Nat.mul_le_mul_right _ hD)
 have e:q*top*(P1*Po)=q*(top*P1*Po):=by grind
 rw[e]
 omega
theorem guess_word(V D n o:Nat)(hD:D<pw (n+1))(hV:V<pw (o+n+2))(ht:0<wd D n):
 V/(D*pw o)≤(wd V (o+n+1)*18446744073709551616+wd V (o+n))/wd D n:=by
 have f:=top_two V (o+n) hV
 have h:wd D n*pw n≤D:=by rw[←top_one D n hD];exact Nat.div_mul_le_self _ _
 have d:=guess_ge V D (pw n) (pw o) (wd D n) (pw_pos n) (pw_pos o) ht h;rw[←pw_add,Nat.add_comm n o,f]at d;exact d
theorem guess_full(V D o:Nat)(hV:V<D*pw (o+1)):V/(D*pw o)≤18446744073709551615:=by
 have h:V/(D*pw o)<18446744073709551616:=by
  rw[pow_succ64]at hV
  by_cases h0:0<D*pw o
  ·rw[Nat.div_lt_iff_lt_mul h0]
   have e:18446744073709551616*(D*pw o)=D*(pw o*18446744073709551616):=by grind
   omega
  ·rw[show D*pw o=0 from by omega,Nat.div_zero]
   decide
 omega
theorem take_ok(V U t Z:Nat)(hU:0<U)(ht:V/U≤t)(h:Z+t*U=V):Z<U:=by
 have d:=Nat.lt_div_mul_add (a:=V) hU;have f:V/U*U≤t*U:=Nat.mul_le_mul_right _ ht
 omega
theorem take_pos(V U R t Z:Nat)(hZ:Z<R)(h:Z+t*U=V+R):0<t:=by
 cases t with
 | zero=>omega
 | succ n=>omega
theorem take_back(V U R t Z Y c:Nat)(ht:0<t)(h:Z+t*U=V+R)(hb:Y+c*R=Z+U):Y+c*R+(t-1)*U=V+R:=by
 obtain⟨n,rfl⟩:∃n,t=n+1:=⟨t-1,by omega⟩;rw[Nat.add_sub_cancel];rw[Nat.add_mul]at h
 omega
theorem split_end(W D u Q V m:Nat)(hD:D=m*u)(hu:0<u)(h:W*u=V+D*Q)(hV:V<D):W/m=Q∧V/u=W%m:=by
 subst hD
 have j:0<m:=by
  cases m with
  | zero=>rw[Nat.zero_mul]at hV;omega
  | succ n=>omega
 have d:W=V/u+m*Q:=by
  have e:V+m*u*Q=V+m*Q*u:=by grind
  rw[e]at h
  have f:W*u/u=(V+m*Q*u)/u:=by rw[h]
  rw[Nat.mul_div_cancel _ hu,Nat.add_mul_div_right _ _ hu]at f;exact f
 have i:V/u<m:=by rw[Nat.div_lt_iff_lt_mul hu];exact hV
 refine⟨?_,?_⟩
 ·rw[d,Nat.add_mul_div_left _ _ j,Nat.div_eq_of_lt i,Nat.zero_add]
 ·rw[d,Nat.add_mul_mod_self_left,Nat.mod_eq_of_lt i]
end
section
def Gs(x v q d r:Nat):Prop:=x=d*v+r∧q≤d
def Gf(x v1 v0 u0 q d:Nat):Prop:=q≤d∧d<4294967296∧d*(v1*4294967296+v0)≤x*4294967296+u0
theorem gs_start(x v q:Nat)(hv:0<v)(h:q*v≤x):Gs x v q (x/v) (x%v):=by
 refine⟨?_,?_⟩
 ·simp[Nat.div_add_mod,Nat.mul_comm]
 ·rw[Nat.le_div_iff_mul_le hv];exact h
theorem gs_dec(x v1 v0 u0 q d r:Nat)(h:Gs x v1 q d r)(hq:q<4294967296)(hX:q*(v1*4294967296+v0)≤x*4294967296+u0)(ht:4294967296≤d∨r*4294967296+u0<d*v0):
 0<d∧Gs x v1 q (d-1) (r+v1):=by
 obtain⟨i,j⟩:=h
 have f:q<d:=by
  rcases ht with ht|ht
  ·omega
  ·grind
 refine⟨by omega,?_,by omega⟩;obtain⟨n,rfl⟩:∃n,d=n+1:=⟨d-1,by omega⟩
 grind
theorem gs_break(x v1 v0 u0 q d r:Nat)(h0:v0<4294967296)(h:Gs x v1 q d r)(hr:4294967296≤r)(hx:x≤v1*4294967296+4294967295):Gf x v1 v0 u0 q d:=by
 obtain⟨f,i⟩:=h
 have j:d<4294967296:=by
  have:d*v1<4294967296*v1:=by omega
  exact Nat.lt_of_mul_lt_mul_right this
 refine⟨i,j,?_⟩;have A:d*v0≤4294967295*4294967295:=Nat.mul_le_mul (by omega) (by omega)
 have e:d*(v1*4294967296+v0)=d*v1*4294967296+d*v0:=by grind
 rw[e,f,Nat.add_mul]
 omega
theorem gs_stop(x v1 v0 u0 q d r:Nat)(h:Gs x v1 q d r)(h1:d<4294967296)(h2:d*v0≤r*4294967296+u0):Gf x v1 v0 u0 q d:=by
 obtain⟨f,i⟩:=h;refine⟨i,h1,?_⟩
 have e:d*(v1*4294967296+v0)=d*v1*4294967296+d*v0:=by grind
 rw[e,f,Nat.add_mul]
 omega
theorem gf_two(x v1 v0 u0 y d:Nat)(hy:y=v1*4294967296+v0)(h0:0<y)(h:Gf x v1 v0 u0 ((x*4294967296+u0)/y) d):d=(x*4294967296+u0)/y:=by
 obtain⟨i,j,f⟩:=h;rw[←hy,←Nat.le_div_iff_mul_le h0]at f
 omega
theorem two_digits(h l1 l0 y q1 q0 r:Nat)(hy:0<y)(e1:q1=(h*4294967296+l1)/y)(er:r=(h*4294967296+l1)%y)(e0:q0=(r*4294967296+l0)/y):
 (h*18446744073709551616+(l1*4294967296+l0))/y=q1*4294967296+q0:=by
 have d:=Nat.div_add_mod (h*4294967296+l1) y;rw[←e1,←er]at d
 have e:h*18446744073709551616+(l1*4294967296+l0)=r*4294967296+l0+y*(q1*4294967296):=by
  grind
 rw[e,Nat.add_mul_div_left _ _ hy,←e0,Nat.add_comm]
end
section
def euF:Nat→Nat→Nat→Nat→Nat→Bool→Nat×Nat×Bool
 | 0,lv,lf,_,_,β=>(lv,lf,β)
 | n+1,lv,lf,tv,tf,β=>if tv=0 then(lv,lf,β) else euF n tv tf (lv%tv) (lf+lv/tv*tf) (!β)
theorem euF_more:∀(n k lv lf tv tf:Nat) (β:Bool),tv≤n→tv≤k→euF n lv lf tv tf β=euF k lv lf tv tf β
 | 0,0,_,_,_,_,_,_,_=>rfl
 | 0,k+1,lv,lf,tv,tf,β,h,_=>by
  have e:tv=0:=by omega
  subst e
  rfl
 | n+1,0,lv,lf,tv,tf,β,_,h=>by
  have e:tv=0:=by omega
  subst e
  rfl
 | n+1,k+1,lv,lf,tv,tf,β,h1,h2=>by
  show (if tv=0 then(lv,lf,β) else euF n tv tf (lv%tv) (lf+lv/tv*tf) (!β))=(if tv=0 then(lv,lf,β) else euF k tv tf (lv%tv) (lf+lv/tv*tf) (!β))
  by_cases h0:tv=0
  ·rw[if_pos h0,if_pos h0]
  ·have d:=Nat.mod_lt lv (show tv > 0 by omega);rw[if_neg h0,if_neg h0,euF_more n k tv tf (lv%tv) _ _ (by omega) (by omega)]
def eu(lv lf tv tf:Nat)(β:Bool):Nat×Nat×Bool:=euF tv lv lf tv tf β
theorem eu_zero(lv lf tf:Nat)(β:Bool):eu lv lf 0 tf β=(lv,lf,β):=rfl
theorem eu_step(lv lf tv tf:Nat)(β:Bool)(h:0<tv):eu lv lf tv tf β=eu tv tf (lv%tv) (lf+lv/tv*tf) (!β):=by
 obtain⟨n,rfl⟩:∃n,tv=n+1:=⟨tv-1,by omega⟩;have d:=Nat.mod_lt lv h
 show (if n+1=0 then(lv,lf,β) else euF n (n+1) tf (lv%(n+1)) (lf+lv/(n+1)*tf) (!β))=euF (lv%(n+1)) (n+1) tf (lv%(n+1)) (lf+lv/(n+1)*tf) (!β)
 grind [euF_more]
def sg(β:Bool):Int:=if β then -1 else 1
theorem sg_not(β:Bool):sg (!β) = - sg β:=by cases β <;> rfl
structure EI(a m lv lf tv tf:Nat)(β:Bool):Prop where
 lt:tv<lv
 sum:lv*tf+tv*lf=m
 le:lf≤m
 last:(m:Int)∣(a:Int)*lf-sg β*lv
 this:(m:Int)∣(a:Int)*tf+sg β*tv
 gcd:Nat.gcd lv tv=Nat.gcd m a
theorem EI.start(a m:Nat)(h:a<m):EI a m m 0 a 1 true:=by
 refine⟨h,by simp,by omega,?_,?_,rfl⟩
 ·simp
 ·refine⟨0,?_⟩;simp[sg]
  omega
theorem EI.step{a m lv lf tv tf:Nat}{β:Bool}(h:EI a m lv lf tv tf β)(h0:0<tv):EI a m tv tf (lv%tv) (lf+lv/tv*tf) (!β):=by
 have A:=Nat.div_add_mod lv tv;have B:=h.sum;have D:=h.lt;generalize hq:lv/tv=q at *;generalize hr:lv%tv=r at *
 have f:r<tv:=by rw[←hr];exact Nat.mod_lt _ h0
 refine⟨f,?_,?_,?_,?_,?_⟩
 ·rw[←B,←A]
  grind
 ·have G:1*tf≤lv*tf:=Nat.mul_le_mul_right _ (by omega)
  omega
 ·rw[sg_not];obtain⟨c,i⟩:=h.this;exact⟨c,by rw[←i];grind⟩
 ·rw[sg_not];obtain⟨c,i⟩:=h.this;obtain⟨d,j⟩:=h.last;refine⟨d+q*c,?_⟩
  have x:(lv:Int)=tv*q+r:=by
   have:((tv*q+r:Nat):Int)=(lv:Int):=by rw[A]
   rw[←this];simp
  rw[Int.mul_add,←j]
  have e:(m:Int)*(q*c)=q*(m*c):=by grind
  rw[e,←i,x]
  have C:((lf+q*tf:Nat):Int)=(lf:Int)+q*tf:=by simp
  rw[C]
  grind
 ·rw[←h.gcd,←hr,Nat.gcd_comm lv tv,Nat.gcd_rec tv lv,Nat.gcd_comm]
theorem EI.fits{a m lv lf tv tf:Nat}{β:Bool}(h:EI a m lv lf tv tf β)(h0:0<tv):lf+lv/tv*tf≤m:=by
 have d:=(h.step h0).sum;have f:1*(lf+lv/tv*tf)≤tv*(lf+lv/tv*tf):=Nat.mul_le_mul_right _ h0
 omega
theorem EI.fac{a m lv lf tv tf:Nat}{β:Bool}(h:EI a m lv lf tv tf β):tf≤m:=by
 have d:=h.sum;have f:=h.lt;have i:1*tf≤lv*tf:=Nat.mul_le_mul_right _ (by omega)
 omega
theorem EI.val{a m lv lf tv tf:Nat}{β:Bool}(h:EI a m lv lf tv tf β)(h0:0<tf∨lv≤m):lv≤m:=by
 rcases h0 with h0|h0
 ·have d:=h.sum;have f:lv*1≤lv*tf:=Nat.mul_le_mul_left _ h0
  omega
 ·exact h0
theorem eu_end(a m:Nat):∀(tv lv lf tf:Nat) (β:Bool),EI a m lv lf tv tf β→∃g f δ,eu lv lf tv tf β=(g,f,δ)∧g=Nat.gcd m a∧f≤m∧(m:Int)∣(a:Int)*f-sg δ*g:=by
 intro tv
 induction tv using Nat.strongRecOn with
 | _ tv ih=>
  intro lv lf tf β h
  by_cases h0:tv=0
  ·subst h0;refine⟨lv,lf,β,eu_zero lv lf tf β,?_,h.le,h.last⟩;have:=h.gcd;rw[Nat.gcd_zero_right]at this;exact this
  ·rw[eu_step lv lf tv tf β (by omega)];exact ih (lv%tv) (Nat.mod_lt _ (by omega)) tv tf (lf+lv/tv*tf) (!β) (h.step (by omega))
theorem inv_pos(x m:Nat)(c:Int)(hm:1<m)(h:(x:Int)-1=m*c):∃k:Nat,x=1+m*k:=by
 have d:0≤c:=by
  by_cases d:0≤c
  ·exact d
  ·exfalso
   have f:(m:Int)*c≤m*(-1):=Int.mul_le_mul_of_nonneg_left (by omega) (by omega)
   omega
 obtain⟨k,rfl⟩:=Int.eq_ofNat_of_zero_le d;refine⟨k,?_⟩
 have:(m:Int)*k=((m*k:Nat):Int):=by simp
 rw[this]at h
 omega
theorem inv_neg(x m:Nat)(c:Int)(h:(x:Int)+1=m*c):∃k:Nat,x+1=m*k:=by
 have d:0≤c:=by
  by_cases d:0≤c
  ·exact d
  ·exfalso
   have f:(m:Int)*c≤m*0:=Int.mul_le_mul_of_nonneg_left (by omega) (by omega)
   omega
 obtain⟨k,rfl⟩:=Int.eq_ofNat_of_zero_le d;refine⟨k,?_⟩
 have:(m:Int)*k=((m*k:Nat):Int):=by simp
 rw[this]at h
 omega
theorem inv_of(a m f:Nat)(δ:Bool)(hm:1<m)(hf:f≤m)(h:(m:Int)∣(a:Int)*f-sg δ*1):
 (if δ then m-f else f)<m∧a*(if δ then m-f else f)%m=1:=by
 have q:=Nat.mod_eq_of_lt hm;obtain⟨c,i⟩:=h
 cases δ with
 | false=>
  simp only[sg,Bool.false_eq_true,if_false,Int.one_mul]at i ⊢;obtain⟨k,j⟩:=inv_pos (a*f) m c hm (by rw[Int.natCast_mul];exact i)
  have d:a*f%m=1:=by rw[j,Nat.add_mul_mod_self_left,q]
  refine⟨?_,d⟩
  by_cases e:f=m
  ·subst e;rw[Nat.mul_mod_left]at d;omega
  ·omega
 | true=>
  simp only[sg,if_true]at i ⊢;obtain⟨k,j⟩:=inv_neg (a*f) m c (by rw[Int.natCast_mul,←i];omega)
  have d:a*(m-f)%m=1:=by
   have e:a*(m-f)+m*k=1+m*a:=by
    rw[←j,Nat.mul_comm m a]
    have:a*(m-f)+a*f=a*m:=by rw[←Nat.mul_add,Nat.sub_add_cancel hf]
    omega
   have x:(a*(m-f)+m*k)%m=(1+m*a)%m:=by rw[e]
   rw[Nat.add_mul_mod_self_left,Nat.add_mul_mod_self_left,q]at x;exact x
  refine⟨?_,d⟩
  by_cases e:f=0
  ·subst e;rw[Nat.sub_zero,Nat.mul_mod_left]at d;omega
  ·omega
theorem inv_one(a m x y:Nat)(hx:x<m)(hy:y<m)(ex:a*x%m=1)(ey:a*y%m=1):x=y:=by
 have d:x*(a*y)%m=x%m:=by rw[Nat.mul_mod,ey,Nat.mul_one,Nat.mod_mod]
 have f:y*(a*x)%m=y%m:=by rw[Nat.mul_mod,ex,Nat.mul_one,Nat.mod_mod]
 have e:x*(a*y)=y*(a*x):=by grind
 rw[e,f,Nat.mod_eq_of_lt hx,Nat.mod_eq_of_lt hy]at d;exact d.symm
end
section
def Prm(p:Nat):Prop:=2≤p∧∀d,d∣p→d=1∨d=p
theorem Prm.cop{p a:Nat}(h:Prm p)(na:¬p∣a):Nat.Coprime p a:=by
 rcases h.2 (Nat.gcd p a) (Nat.gcd_dvd_left p a) with g|g
 ·exact g
 grind [Nat.gcd_dvd_right]
theorem Prm.dvd_mul{p a b:Nat}(h:Prm p)(d:p∣a*b):p∣a∨p∣b:=by
 by_cases na:p∣a
 ·exact .inl na
 ·exact .inr ((h.cop na).dvd_of_dvd_mul_left d)
theorem Prm.dvd_pow{p a:Nat}(h:Prm p):∀e,p∣a^e→p∣a
 | 0,d=>by
  have:=Nat.le_of_dvd (by simp) d;have:=h.1;simp at *
  omega
 | e+1,d=>by
  rw[Nat.pow_succ]at d
  rcases h.dvd_mul d with x|x
  ·exact Prm.dvd_pow h e x
  ·exact x
theorem prm_ex:∀n N:Nat,N≤n→2≤N→∃p,Prm p∧p∣N
 | 0,N,h,h2=>by omega
 | n+1,N,h,h2=>by
  by_cases hp:Prm N
  ·exact⟨N,hp,Nat.dvd_refl N⟩
  ·have:∃d,d∣N∧d≠1∧d≠N:=by
    apply Classical.byContradiction
    intro j
    apply hp
    refine⟨h2,fun d f=>?_⟩
    apply Classical.byContradiction
    intro i;exact j ⟨d,f,fun e=>i (.inl e),fun e=>i (.inr e)⟩
   obtain⟨d,f,x,nN⟩:=this;have le:=Nat.le_of_dvd (by omega) f
   have:d≠0:=by rintro rfl;have:=Nat.eq_zero_of_zero_dvd f;omega
   obtain⟨p,pp,q⟩:=prm_ex n d (by omega) (by omega);exact⟨p,pp,Nat.dvd_trans q f⟩
theorem prm_sq{N:Nat}(h2:2≤N)(hp:¬Prm N):∃p,Prm p∧p∣N∧p*p≤N:=by
 have:∃d,d∣N∧d≠1∧d≠N:=by
  apply Classical.byContradiction
  intro f
  apply hp
  refine⟨h2,fun d j=>?_⟩
  apply Classical.byContradiction
  intro i;exact f ⟨d,j,fun e=>i (.inl e),fun e=>i (.inr e)⟩
 obtain⟨d,⟨c,f⟩,q,nN⟩:=this
 have x:d≠0:=by rintro rfl;omega
 have A:c≠0:=by rintro rfl;omega
 have B:c≠1:=by rintro rfl;omega
 by_cases le:d≤c
 ·obtain⟨p,pp,h⟩:=prm_ex d d (Nat.le_refl d) (by omega);refine⟨p,pp,Nat.dvd_trans h ⟨c,f⟩,?_⟩;have:=Nat.le_of_dvd (by omega) h;rw[f];exact Nat.le_trans (Nat.mul_le_mul this this) (Nat.mul_le_mul_left d le)
 ·obtain⟨p,pp,h⟩:=prm_ex c c (Nat.le_refl c) (by omega);refine⟨p,pp,Nat.dvd_trans h ⟨d,by rw[f,Nat.mul_comm]⟩,?_⟩;have:=Nat.le_of_dvd (by omega) h;rw[f];exact Nat.le_trans (Nat.mul_le_mul this this) (Nat.mul_le_mul_right c (by omega))
def ch:Nat→Nat→Nat
 | _,0=>1
 | 0,_+1=>0
 | n+1,k+1=>ch n k+ch n (k+1)
theorem ch_none:∀n k,n<k→ch n k=0
 | 0,k+1,_=>rfl
 | n+1,k+1,h=>by rw[ch,ch_none n k (by omega),ch_none n (k+1) (by omega)]
theorem ch_self:∀n,ch n n=1
 | 0=>rfl
 | n+1=>by rw[ch,ch_self n,ch_none n (n+1) (by omega)]
theorem ch_zero(n:Nat):ch n 0=1:=by cases n <;> rfl
theorem ch_mul:∀n k,(k+1)*ch (n+1) (k+1)=(n+1)*ch n k
 | 0,0=>rfl
 | 0,k+1=>by simp[ch]
 | n+1,0=>by
  have:=ch_mul n 0;simp only[ch,ch_zero]at *
  omega
 | n+1,k+1=>by
  have d:=ch_mul n k;have f:=ch_mul n (k+1);rw[ch,Nat.mul_add]
  have h:(k+1+1)*ch (n+1) (k+1)=(n+1)*ch n k+ch (n+1) (k+1):=by rw[Nat.add_mul (k+1) 1,d,Nat.one_mul]
  rw[h,f];have i:ch (n+1) (k+1)=ch n k+ch n (k+1):=rfl;rw[i,Nat.add_mul (n+1) 1,Nat.mul_add,Nat.one_mul]
  omega
def su(f:Nat→Nat):Nat→Nat
 | 0=>0
 | n+1=>su f n+f n
theorem su_add(f g:Nat→Nat):∀n,su (fun k=>f k+g k) n=su f n+su g n
 | 0=>rfl
 | n+1=>by rw[su,su,su,su_add f g n];omega
theorem su_mul(f:Nat→Nat)(c:Nat):∀n,su (fun k=>c*f k) n=c*su f n
 | 0=>rfl
 | n+1=>by rw[su,su,su_mul f c n,Nat.mul_add]
theorem su_head(f:Nat→Nat):∀n,su f (n+1)=f 0+su (fun k=>f (k+1)) n
 | 0=>by simp[su]
 | n+1=>by rw[su,su_head f n,su];omega
theorem su_congr(f g:Nat→Nat):∀n,(∀k,k<n→f k=g k)→su f n=su g n
 | 0,_=>rfl
 | n+1,h=>by rw[su,su,su_congr f g n (fun k l=>h k (by omega)),h n (by omega)]
theorem su_dvd(p:Nat)(f:Nat→Nat):∀n,(∀k,k<n→p∣f k)→p∣su f n
 | 0,_=>Nat.dvd_zero p
 | n+1,h=>(Nat.dvd_add_right (su_dvd p f n (fun k l=>h k (by omega)))).mpr (h n (by omega))
theorem binom(a:Nat):∀n,(a+1)^n=su (fun k=>ch n k*a^k) (n+1)
 | 0=>by simp[su,ch]
 | n+1=>by
  rw[Nat.pow_succ,binom a n,su_head (fun k=>ch (n+1) k*a^k)]
  have e:su (fun k=>ch (n+1) (k+1)*a^(k+1)) (n+1)=su (fun k=>a*(ch n k*a^k)) (n+1)+su (fun k=>ch n (k+1)*a^(k+1)) (n+1):=by
   rw[←su_add]
   apply su_congr
   intro k _;rw[ch,Nat.add_mul,Nat.pow_succ];simp[Nat.mul_comm,Nat.mul_assoc]
  have d:su (fun k=>ch n (k+1)*a^(k+1)) (n+1)=su (fun k=>ch n (k+1)*a^(k+1)) n:=by
   show su (fun k=>ch n (k+1)*a^(k+1)) n+ch n (n+1)*a^(n+1)=_
   rw[ch_none n (n+1) (by omega)];omega
  rw[e,d,su_mul]
  have f:su (fun k=>ch n k*a^k) (n+1)=1+su (fun k=>ch n (k+1)*a^(k+1)) n:=by
   rw[su_head];simp[ch_zero]
  have h:ch (n+1) 0*a^0=1:=by simp[ch_zero]
  rw[Nat.mul_add,Nat.mul_one,h,Nat.mul_comm];rw[f]
  omega
theorem fermat0{p:Nat}(h:Prm p):∀a,∃c,a^p=a+p*c
 | 0=>by
  have:=h.1;exact⟨0,by rw[Nat.zero_pow (by omega)];simp⟩
 | a+1=>by
  obtain⟨c,l⟩:=fermat0 h a;have b:=binom a p;have i:=h.1
  cases p with
  | zero=>omega
  | succ n=>
  rw[su,su_head,ch_zero,ch_self,l]at b
  have d:n+1∣su (fun k=>ch (n+1) (k+1)*a^(k+1)) n:=by
   apply su_dvd
   intro k j;refine Nat.dvd_trans ?_ (Nat.dvd_mul_right _ _);have e:=ch_mul n k;have:n+1∣(k+1)*ch (n+1) (k+1):=⟨_,e⟩
   rcases h.dvd_mul this with x|x
   ·have:=Nat.le_of_dvd (by omega) x;omega
   ·exact x
  obtain⟨s,f⟩:=d;refine⟨s+c,?_⟩;rw[Nat.pow_zero]at b;rw[b,f,Nat.mul_add (n+1) s c]
  omega
theorem Prm.fermat{p a:Nat}(h:Prm p)(na:¬p∣a):a^(p-1)%p=1:=by
 obtain⟨c,e⟩:=fermat0 h a;have j:=h.1;have f:0<a:=Nat.pos_of_ne_zero (fun e=>na (e▸Nat.dvd_zero p))
 have i:a^p=a^(p-1)*a:=by
  conv=>lhs;rw[show p=p-1+1 by omega,Nat.pow_succ]
 have l:1≤a^(p-1):=Nat.pow_pos f
 have d:p∣a*(a^(p-1)-1):=by
  refine⟨c,?_⟩;rw[Nat.mul_sub,Nat.mul_comm a,←i,e]
  omega
 rcases h.dvd_mul d with x|x
 ·exact absurd x na
 ·obtain⟨k,q⟩:=x
  have:a^(p-1)=1+p*k:=by omega
  rw[this,Nat.add_mul_mod_self_left,Nat.mod_eq_of_lt (by omega)]
theorem pow_mod1{g m x:Nat}(h:g^x%m=1%m)(k:Nat):g^(x*k)%m=1%m:=by
 rw[Nat.pow_mul,Nat.pow_mod,h,←Nat.pow_mod,Nat.one_pow]
theorem pow_gcd{g m:Nat}:∀n x y,x≤n→g^x%m=1%m→g^y%m=1%m→g^(Nat.gcd x y)%m=1%m
 | n,0,y,_,_,hy=>by simpa using hy
 | 0,x+1,y,l,_,_=>by omega
 | n+1,x+1,y,l,hx,hy=>by
  rw[Nat.gcd_rec]
  apply pow_gcd n (y%(x+1)) (x+1) (by have:=Nat.mod_lt y (show x+1 > 0 by omega);omega) ?_ hx
  have e:g^y%m=g^(y%(x+1))%m:=by
   conv=>lhs;rw[←Nat.div_add_mod y (x+1),Nat.pow_add,Nat.mul_mod,pow_mod1 hx,←Nat.mul_mod,Nat.one_mul]
  rw[←e,hy]
theorem dvd_qe{q d e:Nat}(h:Prm q)(hd:d∣q^(e+1)):d=q^(e+1)∨d∣q^e:=by
 obtain⟨c,f⟩:=hd
 have i:0<q:=by have:=h.1;omega
 by_cases c1:c=1
 ·left;rw[f,c1,Nat.mul_one]
 ·right
  have D:c≠0:=by rintro rfl;have:=Nat.pow_pos (n:=e+1) i;omega
  obtain⟨r,j,A⟩:=prm_ex c c (Nat.le_refl c) (by omega);have:r∣q:=j.dvd_pow (e+1) (f▸Nat.dvd_trans A (Nat.dvd_mul_left c d))
  have B:r=q:=by
   rcases h.2 r this with x|x
   ·have:=j.1;omega
   ·exact x
  subst B;obtain⟨k,C⟩:=A;refine⟨k,?_⟩
  apply Nat.eq_of_mul_eq_mul_right i
  rw[←Nat.pow_succ,f,C];simp[Nat.mul_comm,Nat.mul_left_comm]
theorem pock1{N p q e a:Nat}(pp:Prm p)(pN:p∣N)(pq:Prm q)(qd:q^(e+1)∣N-1)(h1:a^(N-1)%N=1%N)(hg:Nat.gcd ((a^((N-1)/q)+(N-1))%N) N=1)(N2:2≤N):q^(e+1)∣p-1:=by
 obtain⟨m,h⟩:=qd
 have j:0<q:=by have:=pq.1;omega
 have J:=pp.1
 have d:a^(N-1)%p=1%p:=by
  have:=congrArg (· % p) h1
  simpa [Nat.mod_mod_of_dvd _ pN]using this
 have A:¬p∣a:=by
  intro B;have:p∣a^(N-1):=Nat.dvd_trans B (by rw[show N-1=(N-2)+1 by omega,Nat.pow_succ];exact Nat.dvd_mul_left _ _);rw[Nat.mod_eq_zero_of_dvd this,Nat.mod_eq_of_lt (by omega)]at d
  omega
 have C:(a^m)^(p-1)%p=1%p:=by
  rw[←Nat.pow_mul,Nat.mul_comm,Nat.pow_mul,Nat.pow_mod,pp.fermat A,Nat.one_pow]
 have D:(a^m)^(q^(e+1))%p=1%p:=by
  rw[←Nat.pow_mul,Nat.mul_comm m,←h];exact d
 have f:=pow_gcd _ (q^(e+1)) (p-1) (Nat.le_refl _) D C
 rcases dvd_qe pq (Nat.gcd_dvd_left (q^(e+1)) (p-1)) with x|x
 ·exact x▸Nat.gcd_dvd_right _ _
 ·exfalso
  obtain⟨k,G⟩:=x
  have i:(a^m)^(q^e)%p=1%p:=by rw[G];exact pow_mod1 f k
  have H:(N-1)/q=m*q^e:=by
   rw[h,Nat.pow_succ,Nat.mul_comm (q^e) q,Nat.mul_assoc,Nat.mul_div_cancel_left _ j,Nat.mul_comm]
  rw[←Nat.pow_mul,←H]at i
  -- p divides a^((N-1)/q) + (N - 1)
  have I:p∣(a^((N-1)/q)+(N-1))%N:=by
   apply Nat.dvd_of_mod_eq_zero
   rw[Nat.mod_mod_of_dvd _ pN,Nat.add_mod,i,←Nat.add_mod];rw[show 1+(N-1)=N by omega];exact Nat.mod_eq_zero_of_dvd pN
  have:=Nat.dvd_gcd I pN;rw[hg]at this;have:=Nat.le_of_dvd (by omega) this
  omega
def pmF:Nat→Nat→Nat→Nat→Nat
 | 0,_,_,m=>1%m
 | f+1,a,e,m=>bif Nat.beq e 0 then 1%m else bif Nat.beq (e%2) 1 then a*pmF f (a*a%m) (e/2) m%m else pmF f (a*a%m) (e/2) m
theorem pmF_is:∀f a e m,e<2^f→pmF f a e m=a^e%m
 | 0,a,e,m,h=>by
  have:e=0:=by simpa using h
  subst this;rfl
 | f+1,a,e,m,h=>by
  rw[pmF]
  by_cases e0:e=0
  ·subst e0;simp
  ·have i:Nat.beq e 0=false:=by cases e with|zero=>exact absurd rfl e0|succ n=>rfl
   have j:e/2<2^f:=by rw[Nat.pow_succ]at h;omega
   rw[i,cond_false,pmF_is f (a*a%m) (e/2) m j]
   have d:(a*a%m)^(e/2)%m=a^(2*(e/2))%m:=by
    rw[←Nat.pow_mod,Nat.pow_mul,Nat.pow_two]
   by_cases e1:e%2=1
   ·rw[show Nat.beq (e%2) 1=true by rw[e1];rfl,cond_true,Nat.mul_mod,Nat.mod_mod,d,←Nat.mul_mod,Nat.mul_comm,←Nat.pow_succ];rw[show (2*(e/2)).succ=e by omega]
   ·rw[show e%2=0 by omega,show Nat.beq 0 1=false from rfl,cond_false,d,show 2*(e/2)=e by omega]
def qp(q:Nat):Nat→Nat
 | 0=>1
 | e+1=>qp q e*q
theorem qp_is(q:Nat):∀e,qp q e=q^e
 | 0=>rfl
 | e+1=>by rw[qp,qp_is q e,Nat.pow_succ]
def certRow(f N q e a:Nat):Bool:=
 Nat.beq ((N-1)%qp q (e+1)) 0&&(Nat.beq (pmF f a (N-1) N) 1&&Nat.beq (Nat.gcd ((pmF f a ((N-1)/q) N+(N-1))%N) N) 1)
def rowsOk(f N:Nat):Nat→List (Nat×Nat×Nat)→Bool
 | F,[]=>Nat.ble (N+1) (F*F)
 | F,(q,e,a) :: l=>certRow f N q e a&&(Nat.beq (Nat.gcd F (qp q (e+1))) 1&&rowsOk f N (F*qp q (e+1)) l)
theorem rows_dvd{f N p:Nat}(hf:N<2^f)(N2:2≤N)(pp:Prm p)(pN:p∣N):
 ∀l F,rowsOk f N F l=true→(∀r∈l,Prm r.1)→F∣p-1→N<p*p
 | [],F,h,_,d=>by
  have h:=Nat.le_of_ble_eq_true h;have:=pp.1;have:=Nat.le_of_dvd (by omega) d;have:=Nat.mul_le_mul this this;have:(p-1)*(p-1)≤p*p:=Nat.mul_le_mul (by omega) (by omega)
  omega
 | (q,e,a) :: l,F,h,hq,d=>by
  rw[rowsOk,certRow]at h;simp only[Bool.and_eq_true]at h;obtain⟨⟨j,x,i⟩,c,r⟩:=h;have j:=Nat.eq_of_beq_eq_true j;have x:=Nat.eq_of_beq_eq_true x;have i:=Nat.eq_of_beq_eq_true i;have c:=Nat.eq_of_beq_eq_true c;rw[qp_is]at j c;rw[pmF_is _ _ _ _ (by omega)]at x;have:(N-1)/q≤N-1:=Nat.div_le_self _ _;rw[pmF_is _ _ _ _ (by omega)]at i;have A:q^(e+1)∣p-1:=pock1 (a:=a) pp pN (hq (q,e,a) (by simp)) (Nat.dvd_of_mod_eq_zero j) (by rw[x,Nat.mod_eq_of_lt (by omega)]) (by rw[Nat.mod_add_mod]at i;exact i) N2;refine rows_dvd hf N2 pp pN l (F*qp q (e+1)) r (fun r B=>hq r (by simp[B])) ?_;rw[qp_is];exact Nat.Coprime.mul_dvd_of_dvd_of_dvd c d A
theorem prm_of{f N:Nat}(l:List (Nat×Nat×Nat))(hf:N<2^f)(N2:2≤N)(h:rowsOk f N 1 l=true)(hq:∀r∈l,Prm r.1):Prm N:=by
 apply Classical.byContradiction
 intro d;obtain⟨p,pp,i,j⟩:=prm_sq N2 d;have:=rows_dvd hf N2 pp i l 1 h hq (Nat.one_dvd _)
 omega
def noDiv(n:Nat):Nat→Bool
 | 0=>true
 | k+1 => !Nat.beq (n%(k+2)) 0&&noDiv n k
theorem noDiv_is(n:Nat):∀k,noDiv n k=true→∀d,2≤d→d<k+2→¬d∣n
 | 0,_,d,h2,hl=>by omega
 | k+1,h,d,h2,hl=>by
  rw[noDiv]at h;simp only[Bool.and_eq_true,Bool.not_eq_true']at h
  by_cases e:d=k+2
  ·subst e;intro hd;rw[Nat.mod_eq_zero_of_dvd hd]at h;exact absurd h.1 (by decide)
  ·exact noDiv_is n k h.2 d h2 (by omega)
theorem prm_small{n:Nat}(k:Nat)(h2:2≤n)(hk:n<(k+2)*(k+2))(h:noDiv n k=true):Prm n:=by
 apply Classical.byContradiction
 intro d;obtain⟨p,pp,f,i⟩:=prm_sq h2 d
 by_cases l:p<k+2
 ·exact noDiv_is n k h p pp.1 l f
 ·have:(k+2)*(k+2)≤p*p:=Nat.mul_le_mul (by omega) (by omega)
  omega
end
end Go.Proofs.YtffhepbppiocbacGreat
namespace Go.Proofs.YtffhepbppiocbacGreat.EC
section
variable {p:Nat} [NeZero p]
theorem nzd(h:Prm p)(a b:Fin p)(e:a*b=0):a=0∨b=0:=by
 have f:(a*b).val=(0:Fin p).val:=by rw[e]
 rw[Fin.val_mul,Fin.val_zero]at f
 rcases h.dvd_mul (Nat.dvd_of_mod_eq_zero f) with d|d
 ·grind [Nat.eq_zero_of_dvd_of_lt]
 grind [Nat.eq_zero_of_dvd_of_lt]
/-- The point lies on the curve. -/
def OnC(A B x y:Fin p):Prop:=y*y=x*x*x+A*x+B
/-- l is the slope of the line through the two points, the tangent where they are one. -/
def Sl(A x1 y1 x2 y2 l:Fin p):Prop:=y2-y1=l*(x2-x1)∧l*(y1+y2)=x1*x1+x1*x2+x2*x2+A
/-- The two points are not opposite. -/
def Nop(x1 y1 x2 y2:Fin p):Prop:=¬(x1=x2∧y1+y2=0)
theorem mvl{a b c:Fin p}(h:a-b=c):b=a-c:=by grobner
theorem mvr{a b c:Fin p}(h:a-b=c):a=b+c:=by grobner
theorem mva{a b c:Fin p}(h:a=b+c):c=a-b:=by grobner
theorem sub_zero_of{a b:Fin p}(h:a-b=0):a=b:=by grobner
theorem sl_one(hp:Prm p){A x1 y1 x2 y2 l m:Fin p}(hn:Nop x1 y1 x2 y2)(h1:Sl A x1 y1 x2 y2 l)(h2:Sl A x1 y1 x2 y2 m):l=m:=by
 obtain⟨d,f⟩:=h1;obtain⟨i,j⟩:=h2
 have q:(l-m)*(x2-x1)=0:=by
  have:(l-m)*(x2-x1)=l*(x2-x1)-m*(x2-x1):=by grobner
  rw[this,←d,←i]
  grobner
 have x:(l-m)*(y1+y2)=0:=by
  have:(l-m)*(y1+y2)=l*(y1+y2)-m*(y1+y2):=by grobner
  rw[this,f,j]
  grobner
 rcases nzd hp _ _ q with h|h
 ·exact sub_zero_of h
 ·rcases nzd hp _ _ x with h'|h'
  ·exact sub_zero_of h'
  ·exact absurd ⟨(sub_zero_of h).symm,h'⟩ hn
/-- The sum by the slope l. -/
def sx(l x1 x2:Fin p):Fin p:=l*l-x1-x2
def sy(l x1 y1 x:Fin p):Fin p:=l*(x1-x)-y1
theorem on_slope{A B x1 y1 x2 y2 l:Fin p}(h1:OnC A B x1 y1)(hs:Sl A x1 y1 x2 y2 l):OnC A B (sx l x1 x2) (sy l x1 y1 (sx l x1 x2)):=by
 obtain⟨a,b⟩:=hs;unfold OnC at *
 have d:y2=y1+l*(x2-x1):=by grobner
 subst d
 have f:A=l*(y1+(y1+l*(x2-x1)))-(x1*x1+x1*x2+x2*x2):=by rw[b];grobner
 have h:B=y1*y1-x1*x1*x1-A*x1:=by rw[h1];grobner
 subst h;subst f;unfold sx sy
 grobner
theorem Sl.symm{A x1 y1 x2 y2 l:Fin p}(h:Sl A x1 y1 x2 y2 l):Sl A x2 y2 x1 y1 l:=by
 obtain⟨a,b⟩:=h
 refine⟨?_,?_⟩
 ·have:y1-y2 = -(y2-y1):=by grobner
  rw[this,a];grobner
 ·have:l*(y2+y1)=l*(y1+y2):=by grobner
  rw[this,b];grobner
theorem sy_symm{A x1 y1 x2 y2 l:Fin p}(h:Sl A x1 y1 x2 y2 l)(x:Fin p):sy l x1 y1 x=sy l x2 y2 x:=by
 obtain⟨a,b⟩:=h
 have d:y2=y1+l*(x2-x1):=by grobner
 subst d;unfold sy
 grobner
/-- The line back: the opposite of the first and the sum have the opposite slope. -/
theorem sl_back{A x1 y1 x2 y2 l:Fin p}(h:Sl A x1 y1 x2 y2 l):Sl A x1 (-y1) (sx l x1 x2) (sy l x1 y1 (sx l x1 x2)) (-l):=by
 obtain⟨a,b⟩:=h
 have d:y2=y1+l*(x2-x1):=by grobner
 subst d
 have f:A=l*(y1+(y1+l*(x2-x1)))-(x1*x1+x1*x2+x2*x2):=by rw[b];grobner
 subst f;unfold Sl sx sy;refine⟨?_,?_⟩ <;> grobner
/-- The two slopes of three points: what the slope of the first and the sum of the others is. -/
theorem sl_three(hp:Prm p){A x1 y1 x2 y2 x3 y3 l m o:Fin p}(h1:Sl A x1 y1 x2 y2 l)(h2:Sl A x2 y2 x3 y3 m)(hn:Nop x1 y1 (sx m x2 x3) (sy m x2 y2 (sx m x2 x3)))(ho:Sl A x1 y1 (sx m x2 x3) (sy m x2 y2 (sx m x2 x3)) o):
 o*(l-m)+(l*m-x1-x2-(sx m x2 x3))=0:=by
 obtain⟨f,d⟩:=h1;obtain⟨i,j⟩:=h2;obtain⟨q,x⟩:=ho;have B:=mvl f;have C:=mvr i;subst C;subst B;have D:=mva j;subst D
 have G:(o*(l-m)+(l*m-x1-x2-(sx m x2 x3)))*(sx m x2 x3-x1)=0:=by
  have e:(o*(l-m)+(l*m-x1-x2-(sx m x2 x3)))*(sx m x2 x3-x1)=(l-m)*(o*(sx m x2 x3-x1)-(sy m x2 y2 (sx m x2 x3)-(y2-l*(x2-x1))))+(x1*x1+x1*x2+x2*x2+(m*(y2+(y2+m*(x3-x2)))-(x2*x2+x2*x3+x3*x3))-l*(y2-l*(x2-x1)+y2)):=by
   unfold sx sy
   grobner
  rw[e,q,d]
  grobner
 have H:(o*(l-m)+(l*m-x1-x2-(sx m x2 x3)))*(y2-l*(x2-x1)+sy m x2 y2 (sx m x2 x3))=0:=by
  have e:(o*(l-m)+(l*m-x1-x2-(sx m x2 x3)))*(y2-l*(x2-x1)+sy m x2 y2 (sx m x2 x3))=(l-m)*(o*(y2-l*(x2-x1)+sy m x2 y2 (sx m x2 x3))-(x1*x1+x1*sx m x2 x3+sx m x2 x3*sx m x2 x3+(m*(y2+(y2+m*(x3-x2)))-(x2*x2+x2*x3+x3*x3))))-m*(x1*x1+x1*x2+x2*x2+(m*(y2+(y2+m*(x3-x2)))-(x2*x2+x2*x3+x3*x3))-l*(y2-l*(x2-x1)+y2)):=by
   unfold sx sy
   grobner
  rw[e,x,d]
  grobner
 rcases nzd hp _ _ G with h|h
 ·exact h
 ·rcases nzd hp _ _ H with h'|h'
  ·exact h'
  ·exact absurd ⟨(sub_zero_of h).symm,h'⟩ hn
/-- The slope of the sum of the first two and the third. -/
theorem sl_other(hp:Prm p){A x1 y1 x2 y2 x3 y3 l m o:Fin p}(h1:Sl A x1 y1 x2 y2 l)(h2:Sl A x2 y2 x3 y3 m)(hlm:l≠m)(ho:o*(l-m)+(l*m-x1-x2-(sx m x2 x3))=0):
 Sl A (sx l x1 x2) (sy l x2 y2 (sx l x1 x2)) x3 y3 (o+m-l)∧sx (o+m-l) (sx l x1 x2) x3=sx o x1 (sx m x2 x3) ∧
  sy (o+m-l) x3 y3 (sx o x1 (sx m x2 x3))=sy o x1 y1 (sx o x1 (sx m x2 x3)):=by
 obtain⟨i,j⟩:=h1;obtain⟨q,x⟩:=h2;have B:=mvl i;have C:=mvr q;subst C;subst B;have D:=mva x;subst D
 have f:∀t:Fin p,(l-m)*t=0→t=0:=fun t G=>by
  rcases nzd hp _ _ G with h|h
  ·exact absurd (sub_zero_of h) hlm
  ·exact h
 have d:x1*x1+x1*x2+x2*x2+(m*(y2+(y2+m*(x3-x2)))-(x2*x2+x2*x3+x3*x3))-l*(y2-l*(x2-x1)+y2)=0:=by
  rw[j];clear i q j x ho f
  grobner
 clear i q j x
 refine⟨⟨?_,?_⟩,?_,?_⟩
 ·apply sub_zero_of
  apply f
  have e:(l-m)*(y2+m*(x3-x2)-sy l x2 y2 (sx l x1 x2)-(o+m-l)*(x3-sx l x1 x2)) = -(x3-sx l x1 x2)*(o*(l-m)+(l*m-x1-x2-(sx m x2 x3)))-(x1*x1+x1*x2+x2*x2+(m*(y2+(y2+m*(x3-x2)))-(x2*x2+x2*x3+x3*x3))-l*(y2-l*(x2-x1)+y2)):=by
   clear ho f d;unfold sx sy
   grobner
  rw[e,ho,d];clear e ho f d
  grobner
 ·apply sub_zero_of
  apply f
  have e:(l-m)*((o+m-l)*(sy l x2 y2 (sx l x1 x2)+(y2+m*(x3-x2)))-(sx l x1 x2*sx l x1 x2+sx l x1 x2*x3+x3*x3+(m*(y2+(y2+m*(x3-x2)))-(x2*x2+x2*x3+x3*x3))))=(sy l x2 y2 (sx l x1 x2)+(y2+m*(x3-x2)))*(o*(l-m)+(l*m-x1-x2-(sx m x2 x3)))+m*(x1*x1+x1*x2+x2*x2+(m*(y2+(y2+m*(x3-x2)))-(x2*x2+x2*x3+x3*x3))-l*(y2-l*(x2-x1)+y2)):=by
   unfold sx sy
   grobner
  rw[e,ho,d]
  grobner
 ·have e:sx (o+m-l) (sx l x1 x2) x3=sx o x1 (sx m x2 x3) + -2*(o*(l-m)+(l*m-x1-x2-(sx m x2 x3))):=by
   unfold sx
   grobner
  rw[e,ho]
  grobner
 ·apply sub_zero_of
  apply f
  have e:(l-m)*(sy (o+m-l) x3 (y2+m*(x3-x2)) (sx o x1 (sx m x2 x3))-sy o x1 (y2-l*(x2-x1)) (sx o x1 (sx m x2 x3)))=(x3-x1+(o*(l-m)-(l*m-x1-x2-(sx m x2 x3))))*(o*(l-m)+(l*m-x1-x2-(sx m x2 x3))):=by
   unfold sx sy
   grobner
  rw[e,ho]
  grobner
/-- The sum of two points, as the documents have it (i: inverses). -/
def pl(i:Fin p→Fin p)(A:Fin p):Option (Fin p×Fin p)→Option (Fin p×Fin p)→Option (Fin p×Fin p)
 | none,q=>q
 | some P,none=>some P
 | some (x1,y1),some (x2,y2)=>
  if x1=x2 then
   if y1≠y2∨y1=0 then none
   else some (sx ((x1*x1+(x1*x1+x1*x1)+A)*i (y1+y1)) x1 x2,sy ((x1*x1+(x1*x1+x1*x1)+A)*i (y1+y1)) x1 y1 (sx ((x1*x1+(x1*x1+x1*x1)+A)*i (y1+y1)) x1 x2))
  else some (sx ((y2-y1)*i (x2-x1)) x1 x2,sy ((y2-y1)*i (x2-x1)) x1 y1 (sx ((y2-y1)*i (x2-x1)) x1 x2))
/-- The opposite. -/
def ng:Option (Fin p×Fin p)→Option (Fin p×Fin p)
 | none=>none
 | some (x,y)=>some (x,-y)
/-- It lies on the curve. -/
def On(A B:Fin p):Option (Fin p×Fin p)→Prop
 | none=>True
 | some (x,y)=>OnC A B x y
/-- What is asked of a curve's numbers, and of the inverses. -/
structure Cur(i:Fin p→Fin p)(A B:Fin p):Prop where
 pr:Prm p
 two:(2:Fin p)≠0
 dis:4*(A*A*A)+27*(B*B)≠0
 inv:∀d,d≠0→i d*d=1
variable {i:Fin p→Fin p} {A B:Fin p}
theorem Cur.dbl(C:Cur i A B){y:Fin p}(h:y+y=0):y=0:=by
 have e:(2:Fin p)*y=y+y:=by grobner
 rw[h]at e
 rcases nzd C.pr _ _ e with h|h
 ·exact absurd h C.two
 ·exact h
theorem pl_op(C:Cur i A B){x y z:Fin p}(h:y+z=0):pl i A (some (x,y)) (some (x,z))=none:=by
 show (if x=x then if y≠z∨y=0 then none else _ else _)=none
 rw[if_pos rfl,if_pos ?_]
 by_cases e:y=z
 ·subst e;exact Or.inr (C.dbl h)
 ·exact Or.inl e
theorem pl_ex(C:Cur i A B){x1 y1 x2 y2:Fin p}(h1:OnC A B x1 y1)(h2:OnC A B x2 y2)(hn:Nop x1 y1 x2 y2):
 ∃l,Sl A x1 y1 x2 y2 l∧pl i A (some (x1,y1)) (some (x2,y2))=some (sx l x1 x2,sy l x1 y1 (sx l x1 x2)):=by
 by_cases e:x1=x2
 ·subst e
  have x:(y1-y2)*(y1+y2)=0:=by
   have e:(y1-y2)*(y1+y2)=y1*y1-y2*y2:=by grobner
   rw[e,h1,h2]
   grobner
  have D:y1=y2:=by
   rcases nzd C.pr _ _ x with h|h
   ·exact sub_zero_of h
   ·exact absurd ⟨rfl,h⟩ hn
  subst D;have j:y1+y1≠0:=fun h=>hn ⟨rfl,h⟩;have d:y1≠0:=fun h=>j (by rw[h];grobner)
  refine⟨(x1*x1+(x1*x1+x1*x1)+A)*i (y1+y1),⟨?_,?_⟩,?_⟩
  ·grobner
  ·have e:(x1*x1+(x1*x1+x1*x1)+A)*i (y1+y1)*(y1+y1)=(x1*x1+(x1*x1+x1*x1)+A)*(i (y1+y1)*(y1+y1)):=by grobner
   rw[e,C.inv _ j]
   grobner
  ·show (if x1=x1 then if y1≠y1∨y1=0 then none else _ else _)=_
   rw[if_pos rfl,if_neg]
   rintro (h|h)
   ·exact h rfl
   ·exact d h
 ·have f:x2-x1≠0:=fun h=>e (sub_zero_of h).symm
  refine⟨(y2-y1)*i (x2-x1),⟨?_,?_⟩,?_⟩
  ·have e:(y2-y1)*i (x2-x1)*(x2-x1)=(y2-y1)*(i (x2-x1)*(x2-x1)):=by grobner
   rw[e,C.inv _ f]
   grobner
  ·have q:(x2-x1)*((y2-y1)*i (x2-x1)*(y1+y2)-(x1*x1+x1*x2+x2*x2+A))=0:=by
    have e:(x2-x1)*((y2-y1)*i (x2-x1)*(y1+y2)-(x1*x1+x1*x2+x2*x2+A))=(i (x2-x1)*(x2-x1))*(y2*y2-y1*y1)-(x2-x1)*(x1*x1+x1*x2+x2*x2+A):=by
     grobner
    rw[e,C.inv _ f,h1,h2]
    grobner
   rcases nzd C.pr _ _ q with h|h
   ·exact absurd h f
   ·exact sub_zero_of h
  ·show (if x1=x2 then _ else _)=_
   rw[if_neg e]
theorem pl_is(C:Cur i A B){x1 y1 x2 y2 l:Fin p}(h1:OnC A B x1 y1)(h2:OnC A B x2 y2)(hn:Nop x1 y1 x2 y2)(hs:Sl A x1 y1 x2 y2 l):
 pl i A (some (x1,y1)) (some (x2,y2))=some (sx l x1 x2,sy l x1 y1 (sx l x1 x2)):=by
 obtain⟨m,d,e⟩:=pl_ex C h1 h2 hn;rw[sl_one C.pr hn hs d];exact e
theorem pl_on(C:Cur i A B){P Q:Option (Fin p×Fin p)}(h1:On A B P)(h2:On A B Q):On A B (pl i A P Q):=by
 match P,Q,h1,h2 with
 | none,_,_,h2=>exact h2
 | some (_,_),none,h1,_=>exact h1
 | some (x1,y1),some (x2,y2),h1,h2=>
  by_cases hn:x1=x2∧y1+y2=0
  ·obtain⟨rfl,hn⟩:=hn;rw[pl_op C hn]
   trivial
  ·obtain⟨l,d,e⟩:=pl_ex C h1 h2 hn;rw[e];exact on_slope h1 d
theorem Nop.symm{x1 y1 x2 y2:Fin p}(h:Nop x1 y1 x2 y2):Nop x2 y2 x1 y1:=fun⟨h1,h2⟩=>h ⟨h1.symm,by rw[←h2];clear h2;grobner⟩
theorem pl_comm(C:Cur i A B){P Q:Option (Fin p×Fin p)}(h1:On A B P)(h2:On A B Q):pl i A P Q=pl i A Q P:=by
 match P,Q,h1,h2 with
 | none,none,_,_=>rfl
 | none,some (_,_),_,_=>rfl
 | some (_,_),none,_,_=>rfl
 | some (x1,y1),some (x2,y2),h1,h2=>
  by_cases hn:x1=x2∧y1+y2=0
  ·obtain⟨rfl,hn⟩:=hn;rw[pl_op C hn,pl_op C (by rw[←hn];clear hn;grobner)]
  ·obtain⟨l,d,e⟩:=pl_ex C h1 h2 hn;rw[e,pl_is C h2 h1 (Nop.symm hn) d.symm]
   have f:sx l x2 x1=sx l x1 x2:=by unfold sx;grobner
   rw[f,sy_symm d]
theorem ng_ng(P:Option (Fin p×Fin p)):ng (ng P)=P:=by
 match P with
 | none=>rfl
 | some (x,y)=>
  show some (x,- -y)=_
  have e : - -y=y:=by grobner
  rw[e]
theorem ng_on{P:Option (Fin p×Fin p)}(h:On A B P):On A B (ng P):=by
 match P,h with
 | none,_=>trivial
 | some (x,y),h=>
  show -y * -y=_
  have e : -y * -y=y*y:=by grobner
  rw[e];exact h
theorem pl_ng(C:Cur i A B)(P:Option (Fin p×Fin p)):pl i A P (ng P)=none:=by
 match P with
 | none=>rfl
 | some (x,y)=>exact pl_op C (by grobner)
theorem ng_pl(C:Cur i A B){P Q:Option (Fin p×Fin p)}(h1:On A B P)(h2:On A B Q):ng (pl i A P Q)=pl i A (ng P) (ng Q):=by
 match P,Q,h1,h2 with
 | none,none,_,_=>rfl
 | none,some (_,_),_,_=>rfl
 | some (_,_),none,_,_=>rfl
 | some (x1,y1),some (x2,y2),h1,h2=>
  by_cases hn:x1=x2∧y1+y2=0
  ·obtain⟨rfl,hn⟩:=hn;rw[pl_op C hn]
   show none=pl i A (some (x1,-y1)) (some (x1,-y2))
   rw[pl_op C]
   have e : -y1 + -y2 = -(y1+y2):=by grobner
   rw[e,hn]
   grobner
  ·obtain⟨l,d,e⟩:=pl_ex C h1 h2 hn;rw[e]
   have f:Sl A x1 (-y1) x2 (-y2) (-l):=by
    refine⟨?_,?_⟩
    ·have e : -y2 - -y1 = -(y2-y1):=by grobner
     rw[e,d.1]
     grobner
    ·have e : -l*(-y1 + -y2)=l*(y1+y2):=by grobner
     rw[e];exact d.2
   show _=pl i A (some (x1,-y1)) (some (x2,-y2))
   rw[pl_is C (ng_on h1) (ng_on h2) ?_ f]
   ·show some (sx l x1 x2,-(sy l x1 y1 (sx l x1 x2)))=some (sx (-l) x1 x2,sy (-l) x1 (-y1) (sx (-l) x1 x2))
    have h:sx (-l) x1 x2=sx l x1 x2:=by unfold sx;grobner
    rw[h];generalize sx l x1 x2=t
    have j : -(sy l x1 y1 t)=sy (-l) x1 (-y1) t:=by unfold sy;grobner
    rw[j]
   ·rintro⟨q,x⟩;refine hn ⟨q,?_⟩
    have e:y1+y2 = -(-y1 + -y2):=by grobner
    rw[e,x]
    grobner
/-- What was added is taken away again. -/
theorem pl_back(C:Cur i A B){P Q:Option (Fin p×Fin p)}(h1:On A B P)(h2:On A B Q):pl i A (ng P) (pl i A P Q)=Q:=by
 match P,Q,h1,h2 with
 | none,_,_,_=>rfl
 | some (x,y),none,_,_=>exact pl_op C (show -y+y=0 by grobner)
 | some (x1,y1),some (x2,y2),h1,h2=>
  by_cases hn:x1=x2∧y1+y2=0
  ·obtain⟨rfl,hn⟩:=hn;rw[pl_op C hn]
   show some (x1,-y1)=some (x1,y2)
   have e:y2=y1+y2-y1:=by grobner
   rw[e,hn]
   have e:0-y1 = -y1:=by clear e hn h1 h2;grobner
   rw[e]
  ·obtain⟨l,f,e⟩:=pl_ex C h1 h2 hn;rw[e];have j:=sl_back f;have d:=on_slope h1 f
   have h:Nop x1 (-y1) (sx l x1 x2) (sy l x1 y1 (sx l x1 x2)):=by
    rintro⟨q,D⟩;rw[←q]at D
    have H:y1=0:=by
     apply C.dbl
     have e:y1+y1 = -(-y1+sy l x1 y1 x1):=by unfold sy;grobner
     rw[e,D];clear e q D f h1 h2 j d
     grobner
    subst H
    have I:l*l-(x1+x1+x2)=0:=by
     have e:l*l-(x1+x1+x2)=sx l x1 x2-x1:=by unfold sx;grobner
     rw[e,←q];clear e q D f h1 h2 j d
     grobner
    have J:x1*x1+x1*x1+x1*x1+A=0:=by
     have e:x1*x1+x1*x1+x1*x1+A=(x1*x1+x1*x2+x2*x2+A)-l*(0+y2)+l*((y2-0)-l*(x2-x1))+(x2-x1)*(l*l-(x1+x1+x2)):=by
      grobner
     rw[e,I,f.2,f.1]
     grobner
    apply C.dis
    have G:(0:Fin p)*0-(x1*x1*x1+A*x1+B)=0:=by
     rw[show (0:Fin p)*0=x1*x1*x1+A*x1+B from h1]
     grobner
    have e:4*(A*A*A)+27*(B*B)=(27*(x1*x1)*((x1*x1+x1*x1+x1*x1+A)-4*(x1*x1))+4*((x1*x1+x1*x1+x1*x1+A)*(x1*x1+x1*x1+x1*x1+A)-9*((x1*x1+x1*x1+x1*x1+A)*(x1*x1))+27*((x1*x1)*(x1*x1))))*(x1*x1+x1*x1+x1*x1+A)+(54*(x1*x1*x1+A*x1)-27*(x1*x1*x1+A*x1+B))*(0*0-(x1*x1*x1+A*x1+B)):=by
     grobner
    rw[e,J,G]
    grobner
   show pl i A (some (x1,-y1)) _=_
   rw[pl_is C (ng_on h1) d h j]
   have K:sx (-l) x1 (sx l x1 x2)=x2:=by clear e f h1 h2 j d hn h;unfold sx;grobner
   have L:sy (-l) x1 (-y1) x2=y2:=by
    have:=mvr f.1;rw[this];unfold sy
    grobner
   rw[K,L]
theorem pl_none(P:Option (Fin p×Fin p)):pl i A P none=P:=by
 cases P <;> rfl
theorem ad_comm(a b:Fin p):a+b=b+a:=by grobner
theorem neg_of{a b:Fin p}(h:a+b=0):b = -a:=by grobner
/-- The sum in any brackets. -/
theorem pl_assoc(C:Cur i A B){P Q R:Option (Fin p×Fin p)}(h1:On A B P)(h2:On A B Q)(h3:On A B R):pl i A (pl i A P Q) R=pl i A P (pl i A Q R):=by
 by_cases e1:Q=ng P
 ·subst e1;rw[pl_ng C];have:=pl_back C (ng_on h1) h3;rw[ng_ng]at this;rw[this]
  rfl
 by_cases e2:R=ng Q
 ·subst e2;rw[pl_ng C,pl_comm C (pl_on C h1 h2) (ng_on h2),pl_comm C h1 h2,pl_back C h2 h1]
  cases P <;> rfl
 by_cases e3:R=ng (pl i A P Q)
 ·have d:P=ng (pl i A Q R):=by
   have:=pl_back C h2 h1;rw[pl_comm C h2 h1,←ng_ng (pl i A P Q),←e3,←ng_pl C h2 h3]at this;exact this.symm
  have l:pl i A (pl i A P Q) R=none:=by
   rw[e3];exact pl_ng C _
  have r:=pl_ng C (pl i A Q R);rw[←d]at r;rw[l,pl_comm C h1 (pl_on C h2 h3),r]
 have d:P≠ng (pl i A Q R):=fun d=>by
  apply e3
  have:=pl_back C h2 h3;rw[←ng_ng (pl i A Q R),←d,←ng_pl C h2 h1,pl_comm C h2 h1]at this;exact this.symm
 match P,Q,R,h1,h2,h3,e1,e2,e3,d with
 | none,_,_,_,_,_,_,_,_,_=>rfl
 | some (_,_),none,_,_,_,_,_,_,_,_=>rfl
 | some (_,_),some (_,_),none,_,_,_,_,_,_,_=>exact pl_none _
 | some (x1,y1),some (x2,y2),some (x3,y3),h1,h2,h3,e1,e2,e3,d=>
  have L:Nop x1 y1 x2 y2:=fun⟨a,b⟩=>e1 (by
   show some (x2,y2)=some (x1,-y1)
   rw[a,neg_of b])
  have S:Nop x2 y2 x3 y3:=fun⟨a,b⟩=>e2 (by
   show some (x3,y3)=some (x2,-y2)
   rw[a,neg_of b])
  obtain⟨l,f,G⟩:=pl_ex C h1 h2 L;obtain⟨m,j,H⟩:=pl_ex C h2 h3 S;rw[G]at e3 ⊢;rw[H]at d ⊢;have U:=on_slope h1 f;have V:=on_slope h2 j
  have I:Nop (sx l x1 x2) (sy l x1 y1 (sx l x1 x2)) x3 y3:=fun⟨a,b⟩=>e3 (by
   show some (x3,y3)=some (sx l x1 x2,-(sy l x1 y1 (sx l x1 x2)))
   rw[neg_of b,a])
  have J:Nop x1 y1 (sx m x2 x3) (sy m x2 y2 (sx m x2 x3)):=fun⟨a,b⟩=>d (by
   show some (x1,y1)=some (sx m x2 x3,-(sy m x2 y2 (sx m x2 x3)))
   have e:=(ad_comm _ _).trans b
   rw[neg_of e,a])
  by_cases c:l=m
  ·subst c;have x:=mvl f.1;have D:=mvr j.1
   have q:(x1-x3)*(l*l-(x1+x2+x3))=0:=by
    have e:(x1-x3)*(l*l-(x1+x2+x3))=(l*(y1+y2)-(x1*x1+x1*x2+x2*x2+A))-(l*(y2+y3)-(x2*x2+x2*x3+x3*x3+A)):=by
     rw[x,D];clear x D f j h1 h2 h3 e1 e2 e3 d L S I J G H U V
     grobner
    rw[e,f.2,j.2]
    grobner
   rcases nzd C.pr _ _ q with h|h
   ·have ex:=sub_zero_of h
    have ey:y1=y3:=by
     rw[x,D,ex]
     grobner
    rw[←G,←H,←ex,←ey,pl_comm C h2 h1];exact pl_comm C (pl_on C h1 h2) h1
   ·refine absurd ⟨?_,?_⟩ I
    ·apply sub_zero_of
     rw[←h];unfold sx
     grobner
    ·have ex:sx l x1 x2=x3:=by
      apply sub_zero_of
      rw[←h];unfold sx
      grobner
     rw[ex,D,x];unfold sy
     grobner
  ·obtain⟨o,W,X⟩:=pl_ex C h1 V J;have Y:=sl_three C.pr f j J W;obtain⟨K,Z,r2⟩:=sl_other C.pr f j c Y;rw[←sy_symm f]at K;rw[X,pl_is C U h3 I K,Z,sy_symm K,r2]
/-- n times a point. -/
def ml(i:Fin p→Fin p)(A:Fin p):Nat→Option (Fin p×Fin p)→Option (Fin p×Fin p)
 | 0,_=>none
 | n+1,P=>pl i A (ml i A n P) P
theorem ml_on(C:Cur i A B){P:Option (Fin p×Fin p)}(h:On A B P):∀n,On A B (ml i A n P)
 | 0=>trivial
 | n+1=>pl_on C (ml_on C h n) h
theorem ml_one(P:Option (Fin p×Fin p)):ml i A 1 P=P:=rfl
theorem ml_add(C:Cur i A B){P:Option (Fin p×Fin p)}(h:On A B P)(m:Nat):∀n,ml i A (m+n) P=pl i A (ml i A m P) (ml i A n P)
 | 0=>(pl_none _).symm
 | n+1=>by
  show pl i A (ml i A (m+n) P) P=pl i A (ml i A m P) (pl i A (ml i A n P) P)
  rw[ml_add C h m n,pl_assoc C (ml_on C h m) (ml_on C h n) h]
end
end Go.Proofs.YtffhepbppiocbacGreat.EC
namespace Go.Proofs.YtffhepbppiocbacGreat.EC
section
variable {p:Nat} [NeZero p]
/-! ### twice a triple -/
/-! ### a triple and a point -/
variable {i:Fin p→Fin p} {A B:Fin p}
end
/-! ### the same on plain numbers -/
def frc(n:Nat)(f:Nat→Bool):Bool:=match n with|0=>f 0|k+1=>f (k+1)
theorem frc_is(n:Nat)(f:Nat→Bool):frc n f=f n:=by cases n <;> rfl
def ad(p a b:Nat):Nat:=(a+b)%p
def mu(p a b:Nat):Nat:=a*b%p
def su(p a b:Nat):Nat:=(p-b+a)%p
theorem v_ad{p:Nat}(a b:Fin p):ad p a.val b.val=(a+b).val:=(Fin.val_add a b).symm
theorem v_mu{p:Nat}(a b:Fin p):mu p a.val b.val=(a*b).val:=(Fin.val_mul a b).symm
theorem v_su{p:Nat}(a b:Fin p):su p a.val b.val=(a-b).val:=(Fin.sub_def a b▸rfl:(a-b).val=(p-b.val+a.val)%p).symm
section
variable {p:Nat} [NeZero p]
variable {i:Fin p→Fin p} {A B:Fin p}
end
end Go.Proofs.YtffhepbppiocbacGreat.EC
namespace Go.Proofs.YtffhepbppiocbacGreat
open Go.RowKit
set_option maxRecDepth 100000
set_option maxHeartbeats 8000000
section
def bn(l:List UInt8):Nat:=l.foldl (fun n b=>n*256+b.toNat) 0
theorem take_snoc(s:ByteArray)(k:Nat)(h:k<s.size):s.data.toList.take (k+1)=s.data.toList.take k++[s[k]]:=by
 rw[List.take_succ_eq_append_getElem (by simpa using h)];rfl
end
end Go.Proofs.YtffhepbppiocbacGreat
namespace Go.Proofs.YtffhepbppiocbacGreat.EC
section
variable {p:Nat} [NeZero p]
/-- The sum of two triples, by its products. -/
def pX(a b X1 Y1 Z1 X2 Y2 Z2:Fin p):Fin p:=(X1*Y2+X2*Y1)*(Y1*Y2-a*(X1*Z2+X2*Z1)-3*b*(Z1*Z2))-(Y1*Z2+Y2*Z1)*(a*(X1*X2)+3*b*(X1*Z2+X2*Z1)-a*a*(Z1*Z2))
def pY(a b X1 Y1 Z1 X2 Y2 Z2:Fin p):Fin p:=(3*(X1*X2)+a*(Z1*Z2))*(a*(X1*X2)+3*b*(X1*Z2+X2*Z1)-a*a*(Z1*Z2))+(Y1*Y2+a*(X1*Z2+X2*Z1)+3*b*(Z1*Z2))*(Y1*Y2-a*(X1*Z2+X2*Z1)-3*b*(Z1*Z2))
def pZ(a b X1 Y1 Z1 X2 Y2 Z2:Fin p):Fin p:=(Y1*Z2+Y2*Z1)*(Y1*Y2+a*(X1*Z2+X2*Z1)+3*b*(Z1*Z2))+(X1*Y2+X2*Y1)*(3*(X1*X2)+a*(Z1*Z2))
/-- The triple stands for the point. -/
def Std(X Y Z:Fin p):Option (Fin p×Fin p)→Prop
 | none=>X=0∧Y≠0∧Z=0
 | some (x,y)=>Z≠0∧X=x*Z∧Y=y*Z
theorem pX_hom(a b x1 y1 z1 x2 y2 z2:Fin p):pX a b (x1*z1) (y1*z1) z1 (x2*z2) (y2*z2) z2=z1*z1*(z2*z2)*pX a b x1 y1 1 x2 y2 1:=by unfold pX;grobner
theorem pY_hom(a b x1 y1 z1 x2 y2 z2:Fin p):pY a b (x1*z1) (y1*z1) z1 (x2*z2) (y2*z2) z2=z1*z1*(z2*z2)*pY a b x1 y1 1 x2 y2 1:=by unfold pY;grobner
theorem pZ_hom(a b x1 y1 z1 x2 y2 z2:Fin p):pZ a b (x1*z1) (y1*z1) z1 (x2*z2) (y2*z2) z2=z1*z1*(z2*z2)*pZ a b x1 y1 1 x2 y2 1:=by unfold pZ;grobner
variable {A B:Fin p}
/-- By the slope. -/
theorem p_slope{x1 y1 x2 y2 l:Fin p}(h1:OnC A B x1 y1)(hs:Sl A x1 y1 x2 y2 l):
 pX A B x1 y1 1 x2 y2 1=sx l x1 x2*pZ A B x1 y1 1 x2 y2 1∧pY A B x1 y1 1 x2 y2 1=sy l x1 y1 (sx l x1 x2)*pZ A B x1 y1 1 x2 y2 1:=by
 obtain⟨a,b⟩:=hs
 have d:y2=y1+l*(x2-x1):=by grobner
 subst d
 have f:A=l*(y1+(y1+l*(x2-x1)))-(x1*x1+x1*x2+x2*x2):=by rw[b];grobner
 have h:B=y1*y1-x1*x1*x1-A*x1:=by rw[h1];grobner
 subst h;subst f;unfold sx sy pX pY pZ
 grind
/-- Z of the sum, by the point that the two differ by. -/
theorem p_diff{x1 y1 x2 y2 j:Fin p}(h1:OnC A B x1 y1)(h2:OnC A B x2 y2)(hx:x2-x1≠0)(hp:Prm p)(hj:j*(x2-x1)=1):
 pZ A B x1 y1 1 x2 y2 1=(x2-x1)*(x2-x1)*(x2-x1)*sy ((-y2-y1)*j) x1 y1 (sx ((-y2-y1)*j) x1 x2):=by
 have d:(x2-x1)*(x2-x1)*(x2-x1)*sy ((-y2-y1)*j) x1 y1 (sx ((-y2-y1)*j) x1 x2)=(-y2-y1)*(x1+x1+x2)*((x2-x1)*(x2-x1))*(j*(x2-x1))-(-y2-y1)*(-y2-y1)*(-y2-y1)*(j*(x2-x1)*(j*(x2-x1))*(j*(x2-x1)))-y1*((x2-x1)*(x2-x1)*(x2-x1)):=by
  unfold sy sx
  grobner
 rw[d,hj];clear d hj j;unfold OnC at h1 h2
 have f:B=y1*y1-x1*x1*x1-A*x1:=by rw[h1];grobner
 subst f
 have i:(x2-x1)*(pZ A (y1*y1-x1*x1*x1-A*x1) x1 y1 1 x2 y2 1-((-y2-y1)*(x1+x1+x2)*((x2-x1)*(x2-x1))*1-(-y2-y1)*(-y2-y1)*(-y2-y1)*(1*1*1)-y1*((x2-x1)*(x2-x1)*(x2-x1))))=0:=by
  unfold pZ
  grobner
 rcases nzd hp _ _ i with h|h
 ·exact absurd h hx
 ·exact sub_zero_of h
variable {i:Fin p→Fin p}
theorem y_ne(hr:∀x,x*x*x+A*x+B≠0){x y:Fin p}(h:OnC A B x y):y≠0:=fun e=>hr x (by rw[←show y*y=_ from h,e];grobner)
theorem mul_ne(hp:Prm p){a b:Fin p}(ha:a≠0)(hb:b≠0):a*b≠0:=fun h=>by
 rcases nzd hp _ _ h with h|h
 ·exact ha h
 ·exact hb h
theorem eight_ne(C:Cur i A B){y:Fin p}(hy:y≠0):8*(y*y*y)≠0:=by
 have e:(8:Fin p)*(y*y*y)=2*y*(2*y)*(2*y):=by grobner
 have h:=mul_ne C.pr C.two hy;rw[e];exact mul_ne C.pr (mul_ne C.pr h h) h
/-- Z of the sum is not 0, where the points are not opposite. -/
theorem pZ_ne(C:Cur i A B)(hr:∀x,x*x*x+A*x+B≠0){x1 y1 x2 y2:Fin p}(h1:OnC A B x1 y1)(h2:OnC A B x2 y2)(hn:Nop x1 y1 x2 y2):pZ A B x1 y1 1 x2 y2 1≠0:=by
 by_cases hx:x1=x2
 ·subst hx
  have q:(y1-y2)*(y1+y2)=0:=by
   have e:(y1-y2)*(y1+y2)=y1*y1-y2*y2:=by grobner
   rw[e,h1,h2]
   grobner
  have D:y1=y2:=by
   rcases nzd C.pr _ _ q with h|h
   ·exact sub_zero_of h
   ·exact absurd ⟨rfl,h⟩ hn
  subst D
  have e:pZ A B x1 y1 1 x1 y1 1=8*(y1*y1*y1):=by
   have G:B=y1*y1-x1*x1*x1-A*x1:=by rw[show y1*y1=_ from h1];grobner
   subst G;unfold pZ
   grobner
  rw[e];exact eight_ne C (y_ne hr h1)
 ·have d:x2-x1≠0:=fun h=>hx (sub_zero_of h).symm;rw[p_diff h1 h2 d C.pr (C.inv _ d)]
  have f:OnC A B x2 (-y2):=by
   unfold OnC at h2 ⊢;rw[←h2]
   grobner
  have j:=pl_on C (P:=some (x1,y1)) (Q:=some (x2,-y2)) h1 f
  have e:pl i A (some (x1,y1)) (some (x2,-y2))=some (sx ((-y2-y1)*i (x2-x1)) x1 x2,sy ((-y2-y1)*i (x2-x1)) x1 y1 (sx ((-y2-y1)*i (x2-x1)) x1 x2)):=by simp[pl,hx]
  rw[e]at j;exact mul_ne C.pr (mul_ne C.pr (mul_ne C.pr d d) d) (y_ne hr j)
/-- The row of products gives a triple of the sum, whatever the two points are. -/
theorem std_add(C:Cur i A B)(hr:∀x,x*x*x+A*x+B≠0){P Q:Option (Fin p×Fin p)}(hP:On A B P)(hQ:On A B Q){X1 Y1 Z1 X2 Y2 Z2:Fin p}(s1:Std X1 Y1 Z1 P)(s2:Std X2 Y2 Z2 Q):
 Std (pX A B X1 Y1 Z1 X2 Y2 Z2) (pY A B X1 Y1 Z1 X2 Y2 Z2) (pZ A B X1 Y1 Z1 X2 Y2 Z2) (pl i A P Q):=by
 match P,Q,hP,hQ,s1,s2 with
 | none,none,_,_,⟨a1,a2,a3⟩,⟨b1,b2,b3⟩=>
  subst a1 a3 b1 b3
  refine⟨?_,?_,?_⟩
  ·unfold pX;grobner
  ·have e:pY A B 0 Y1 0 0 Y2 0=Y1*Y2*(Y1*Y2):=by unfold pY;grobner
   rw[e];exact mul_ne C.pr (mul_ne C.pr a2 b2) (mul_ne C.pr a2 b2)
  ·unfold pZ;grobner
 | none,some (x,y),_,hQ,⟨a1,a2,a3⟩,⟨b1,b2,b3⟩=>
  subst a1 a3 b2 b3;have d:=y_ne hr hQ
  refine⟨?_,?_,?_⟩
  ·have e:pZ A B 0 Y1 0 (x*Z2) (y*Z2) Z2=Y1*Y1*(y*(Z2*Z2)):=by unfold pZ;grobner
   rw[e];exact mul_ne C.pr (mul_ne C.pr a2 a2) (mul_ne C.pr d (mul_ne C.pr b1 b1))
  ·unfold pX pZ;grobner
  ·unfold pY pZ;grobner
 | some (x,y),none,hP,_,⟨a1,a2,a3⟩,⟨b1,b2,b3⟩=>
  subst a2 a3 b1 b3;have d:=y_ne hr hP
  refine⟨?_,?_,?_⟩
  ·have e:pZ A B (x*Z1) (y*Z1) Z1 0 Y2 0=Y2*Y2*(y*(Z1*Z1)):=by unfold pZ;grobner
   rw[e];exact mul_ne C.pr (mul_ne C.pr b2 b2) (mul_ne C.pr d (mul_ne C.pr a1 a1))
  ·unfold pX pZ;grobner
  ·unfold pY pZ;grobner
 | some (x1,y1),some (x2,y2),hP,hQ,⟨a1,a2,a3⟩,⟨b1,b2,b3⟩=>
  subst a2 a3 b2 b3;rw[pX_hom,pY_hom,pZ_hom];have G:=mul_ne C.pr (mul_ne C.pr a1 a1) (mul_ne C.pr b1 b1)
  by_cases hn:Nop x1 y1 x2 y2
  ·obtain⟨l,j,e⟩:=pl_ex C hP hQ hn;rw[e];obtain⟨I,q⟩:=p_slope hP j
   refine⟨mul_ne C.pr G (pZ_ne C hr hP hQ hn),?_,?_⟩
   ·rw[I];generalize sx l x1 x2=u
    grobner
   ·rw[q];generalize sy l x1 y1 (sx l x1 x2)=u
    grobner
  ·obtain⟨J,d⟩:=Classical.byContradiction fun h=>hn h;subst J;rw[pl_op C d];have q:=neg_of d;subst q;have f:=y_ne hr hP;have K:y1+y1≠0:=fun h=>f (C.dbl h);have H:=pl_on C hP hP;obtain⟨l,j,e⟩:=pl_ex C hP hP (fun h=>K h.2);rw[e]at H;have D:=y_ne hr H
   refine⟨?_,?_,?_⟩
   ·have e:pX A B x1 y1 1 x1 (-y1) 1=0:=by unfold pX;grobner
    rw[e];grobner
   ·refine mul_ne C.pr G ?_
    have e:pY A B x1 y1 1 x1 (-y1) 1=8*(y1*y1*y1)*sy l x1 y1 (sx l x1 x1):=by
     obtain⟨-,b⟩:=j
     have L:A=l*(y1+y1)-(x1*x1+x1*x1+x1*x1):=by rw[b];grobner
     have S:B=y1*y1-x1*x1*x1-A*x1:=by rw[hP];grobner
     subst S;subst L;unfold pY sy sx
     grobner
    rw[e];exact mul_ne C.pr (eight_ne C f) D
   ·have e:pZ A B x1 y1 1 x1 (-y1) 1=0:=by unfold pZ;grobner
    rw[e];grobner
end
end Go.Proofs.YtffhepbppiocbacGreat.EC