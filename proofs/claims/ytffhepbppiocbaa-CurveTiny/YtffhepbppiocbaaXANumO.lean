import Derived.Laws.Bits64b
import Derived.Test.YtffhepbppiocbaaXANumM
namespace Go.Proofs.Ytffhepbppiocbaa
open Go.RowKit
set_option maxRecDepth 100000
set_option maxHeartbeats 8000000
section
theorem pow64(p:Nat)(h:p≤64):2^(64-p)*2^p=18446744073709551616:=by
 rw[←Nat.pow_add,show 64-p+p=64 from by omega]
theorem int_pow(p:Nat):(2:Int)^p=((2^p:Nat):Int):=by simp
theorem or_add(x d p:Nat)(hd:d<2^p):x*2^p|||d=x*2^p+d:=by
 rw[←Nat.shiftLeft_eq,Nat.shiftLeft_add_eq_or_of_lt hd]
theorem shl_mod(x p:Nat)(hp:p≤64):x*2^p%18446744073709551616=(x%2^(64-p))*2^p:=by
 rw[←pow64 p hp,Nat.mul_mod_mul_right]
theorem shl_div(x p:Nat)(hp:p≤64):x*2^p/18446744073709551616=x/2^(64-p):=by
 rw[←pow64 p hp,Nat.mul_div_mul_right _ _ (Nat.two_pow_pos p)]
theorem shl_lt(x d p:Nat)(hp:p≤64)(hd:d<2^p):x*2^p%18446744073709551616+d<18446744073709551616:=by
 rw[shl_mod x p hp];have f:=Nat.mod_lt x (Nat.two_pow_pos (64-p));have h:=pow64 p hp;have i:(x%2^(64-p)+1)*2^p≤2^(64-p)*2^p:=Nat.mul_le_mul_right _ f
 grind
theorem pow_lt64(p:Nat)(hp:p<64):2^p<18446744073709551616:=by
 have:=Nat.pow_lt_pow_right (a:=2) (by decide) hp;exact this
theorem shl_word(x d p:Nat)(hp:p<64)(hd:d<2^p):
 bits BinOp.or IntKind.u64 (IntKind.u64.wrap ((x:Int)*2^p)) (d:Int)=((x*2^p%18446744073709551616+d:Nat):Int):=by
 have e:IntKind.u64.wrap ((x:Int)*2^p)=((x*2^p%18446744073709551616:Nat):Int):=by
  rw[IntKind.wrap_u64,int_pow,←Int.natCast_mul];omega
 have f:=pow_lt64 p hp;rw[e,bits_or_u64_nat _ _ (Nat.mod_lt _ (by decide)) (by omega),shl_mod x p (by omega),or_add _ _ _ hd]
theorem shl_carry(x p:Nat)(hp:p<64):(x:Int)/2^(64-p)=((x*2^p/18446744073709551616:Nat):Int):=by
 rw[shl_div x p (by omega),int_pow,←Int.natCast_ediv]
theorem shl_carry_lt(x p:Nat)(hx:x<18446744073709551616):x*2^p/18446744073709551616<2^p:=by
 rw[Nat.div_lt_iff_lt_mul (by decide),Nat.mul_comm];exact Nat.mul_lt_mul_of_pos_left hx (Nat.two_pow_pos p)
theorem shl_step(a s p j U d:Nat)(h:U+d*pw (s+j)=(a%pw j)*(pw s*2^p)):
 U+(wd a j*2^p%18446744073709551616+d)*pw (s+j)+wd a j*2^p/18446744073709551616*pw (s+(j+1))=(a%pw (j+1))*(pw s*2^p):=by
 have f:=Nat.div_add_mod (wd a j*2^p) 18446744073709551616;rw[mod_succ,Nat.add_mul (a%pw j),←h]
 have i:wd a j*pw j*(pw s*2^p)=wd a j*2^p*pw (s+j):=by
  rw[pw_add,Nat.mul_assoc,Nat.mul_assoc,←Nat.mul_assoc (pw j),Nat.mul_comm (pw j*pw s),Nat.mul_comm (pw j)]
 rw[i,show s+(j+1)=s+j+1 from rfl,pow_succ64];generalize wd a j*2^p=m at *;generalize m/18446744073709551616=q at *;generalize m%18446744073709551616=r at *;generalize pw (s+j)=P at *
 have l:(18446744073709551616*q+r)*P=m*P:=by rw[f]
 rw[Nat.add_mul]at l
 have x:q*(P*18446744073709551616)=18446744073709551616*q*P:=by
  rw[Nat.mul_comm P,←Nat.mul_assoc,Nat.mul_comm q]
 rw[x,Nat.add_mul]
 omega
theorem shl_next_lt(U x n:Nat)(hU:U<pw n)(hx:x<18446744073709551616):U+x*pw n<pw (n+1):=by
 rw[pow_succ64];have:x*pw n≤18446744073709551615*pw n:=Nat.mul_le_mul_right _ (by omega)
 omega
theorem shl_end(a s p j U d:Nat)(hsj:s+j=9)(hU:U<pw (s+j))(h:U+d*pw (s+j)=(a%pw j)*(pw s*2^p)):a*2^(64*s+p)%M=U:=by
 have f:pw (s+j)=M:=by rw[hsj];rfl
 have i:=Nat.div_add_mod a (pw j)
 have e:a*2^(64*s+p)=U+(d+a/pw j*2^p)*M:=by
  rw[Nat.pow_add,show 2^(64*s)=pw s from rfl]
  have l:a*(pw s*2^p)=(pw j*(a/pw j)+a%pw j)*(pw s*2^p):=by rw[i]
  rw[l,Nat.add_mul,←h,Nat.add_mul,f,←f,pw_add]
  have q:pw j*(a/pw j)*(pw s*2^p)=a/pw j*2^p*(pw s*pw j):=by
   rw[Nat.mul_comm (pw j),Nat.mul_assoc,Nat.mul_assoc,←Nat.mul_assoc (pw j),Nat.mul_comm (pw j*pw s),Nat.mul_comm (pw j)]
  rw[q]
  omega
 rw[e,Nat.add_mul_mod_self_right,Nat.mod_eq_of_lt (by rw[←f];exact hU)]
theorem shr_word(x A p:Nat)(hx:x<18446744073709551616)(hp:p<64):
 bits BinOp.or IntKind.u64 ((x:Int)/2^p) (((A%2^p)*2^(64-p):Nat):Int)=((x/2^p+(A%2^p)*2^(64-p):Nat):Int):=by
 have f:=Nat.mod_lt A (Nat.two_pow_pos p);have d:=pow64 p (by omega);have h:(A%2^p+1)*2^(64-p)≤2^p*2^(64-p):=Nat.mul_le_mul_right _ f;rw[Nat.add_mul,Nat.mul_comm (2^p),d]at h;have j:=Nat.two_pow_pos (64-p)
 have i:x/2^p<2^(64-p):=by rw[Nat.div_lt_iff_lt_mul (Nat.two_pow_pos p),d];exact hx
 rw[int_pow,←Int.natCast_ediv,bits_or_u64_nat _ _ (by omega) (by omega),Nat.or_comm,or_add _ _ _ i,Nat.add_comm]
theorem shr_carry(x p:Nat)(hp:p<64):IntKind.u64.wrap ((x:Int)*2^(64-p))=(((x%2^p)*2^(64-p):Nat):Int):=by
 have e:=shl_mod x (64-p) (by omega);rw[show 64-(64-p)=p from by omega]at e;rw[←e,IntKind.wrap_u64,int_pow,←Int.natCast_mul]
 omega
theorem shr_word_lt(x A p:Nat)(hx:x<18446744073709551616)(hp:p<64):x/2^p+(A%2^p)*2^(64-p)<18446744073709551616:=by
 have f:=Nat.mod_lt A (Nat.two_pow_pos p);have d:=pow64 p (by omega);have h:(A%2^p+1)*2^(64-p)≤2^p*2^(64-p):=Nat.mul_le_mul_right _ f;rw[Nat.add_mul,Nat.mul_comm (2^p),d]at h
 have i:x/2^p<2^(64-p):=by rw[Nat.div_lt_iff_lt_mul (Nat.two_pow_pos p),d];exact hx
 omega
theorem shr_div(A x p:Nat)(hp:p<64):(A*18446744073709551616+x)/2^p=A/2^p*18446744073709551616+(x/2^p+(A%2^p)*2^(64-p)):=by
 have d:=pow64 p (by omega);have f:=Nat.div_add_mod A (2^p)
 have e:A*18446744073709551616+x=x+A*2^(64-p)*2^p:=by rw[Nat.mul_assoc,d];omega
 rw[e,Nat.add_mul_div_right _ _ (Nat.two_pow_pos p)]
 have h:A*2^(64-p)=A/2^p*18446744073709551616+(A%2^p)*2^(64-p):=by
  rw[←d,Nat.mul_comm (2^(64-p)),←Nat.mul_assoc,←Nat.add_mul,Nat.mul_comm (A/2^p),f]
 rw[h]
 omega
theorem shr_mod(A x p:Nat)(hp:p<64):(A*18446744073709551616+x)%2^p=x%2^p:=by
 have d:=pow64 p (by omega);rw[←d,←Nat.mul_assoc,Nat.add_comm,Nat.add_mul_mod_self_right]
theorem div_step'(a j:Nat):a/pw j=a/pw (j+1)*18446744073709551616+wd a j:=by
 rw[pow_succ64,←Nat.div_div_eq_div_mul,wd]
 omega
theorem shr_step(a p n m:Nat)(hp:p<64):
 a/pw (n+1)/2^p*pw (m+1)+(wd a n/2^p+(a/pw (n+1)%2^p)*2^(64-p))*pw m=a/pw n/2^p*pw m:=by
 rw[div_step' a n,shr_div _ _ p hp,pow_succ64 m];generalize wd a n/2^p+(a/pw (n+1)%2^p)*2^(64-p)=t;generalize a/pw (n+1)/2^p=H;rw[Nat.add_mul,Nat.mul_comm (pw m),Nat.mul_assoc]
theorem nw_set_low(N H m x:Nat)(hx:x<18446744073709551616):(nw N (H*pw (m+1))).setIfInBounds m (Value.int .u64 x)=nw N (H*pw (m+1)+x*pw m):=by
 have d:H*pw (m+1)%pw m=0:=by rw[pow_succ64,←Nat.mul_assoc,Nat.mul_right_comm,Nat.mul_mod_left]
 have f:H*pw (m+1)/pw (m+1)=H:=Nat.mul_div_cancel _ (pw_pos _);rw[nw_set N _ m x hx,d,f,Nat.zero_add,Nat.add_comm]
end
section
theorem wset_eq(V p x:Nat):wset V p x+wd V p*pw p=V+x*pw p:=by
 grind [parts,wset]
theorem sub_step(V0 V D t o i carry bor y low carry' bor':Nat)(h:V+t*(D%pw i)*pw o=V0+(carry+bor)*pw (o+i))(hl:low+carry'*18446744073709551616=t*wd D i+carry)(hy:y+low+bor=wd V (o+i)+bor'*18446744073709551616):
 wset V (o+i) y+t*(D%pw (i+1))*pw o=V0+(carry'+bor')*pw (o+(i+1)):=by
 grind [wset_eq,mod_succ,pw,wd,wset]
theorem sub_last(V0 V E t o k carry bor y bor':Nat)(h:V+t*E*pw o=V0+(carry+bor)*pw (o+k))(hy:y+carry+bor=wd V (o+k)+bor'*18446744073709551616):
 wset V (o+k) y+t*E*pw o=V0+bor'*pw (o+(k+1)):=by
 grind [wset_eq,pw,wd,wset]
theorem back_step(V0 V D o i c y c':Nat)(h:V+c*pw (o+i)=V0+(D%pw i)*pw o)(hy:y+c'*18446744073709551616=wd V (o+i)+wd D i+c):
 wset V (o+i) y+c'*pw (o+(i+1))=V0+(D%pw (i+1))*pw o:=by
 have j:=wset_eq V (o+i) y;rw[mod_succ,show o+(i+1)=o+i+1 from rfl,pow_succ64];have f:=pw_add o i;generalize pw (o+i)=P at *;generalize D%pw i=E at *;generalize pw o=Q at *;generalize pw i=R at *;generalize wd D i=d at *;generalize wd V (o+i)=x at *;generalize wset V (o+i) y=Z at *;subst f
 grind
theorem back_last(V0 V E o k c y c':Nat)(h:V+c*pw (o+k)=V0+E*pw o)(hy:y+c'*18446744073709551616=wd V (o+k)+c):
 wset V (o+k) y+c'*pw (o+(k+1))=V0+E*pw o:=by
 have d:=wset_eq V (o+k) y;rw[show o+(k+1)=o+k+1 from rfl,pow_succ64];generalize pw (o+k)=P at *;generalize pw o=Q at *;generalize wd V (o+k)=x at *;generalize wset V (o+k) y=Z at *
 grind
theorem div_step2(a j:Nat):a/pw j=a/pw (j+1)*18446744073709551616+wd a j:=by
 unfold wd;rw[pow_succ64,←Nat.div_div_eq_div_mul]
 omega
theorem top_one(V j:Nat)(h:V<pw (j+1)):V/pw j=wd V j:=by
 rw[div_step2 V j,Nat.div_eq_of_lt h,Nat.zero_mul,Nat.zero_add]
theorem top_two(V j:Nat)(h:V<pw (j+2)):V/pw j=wd V (j+1)*18446744073709551616+wd V j:=by
 rw[div_step2 V j,top_one V (j+1) h]
theorem guess_ge(V D P1 Po top:Nat)(hP1:0<P1)(hPo:0<Po)(ht:0<top)(hD:top*P1≤D):V/(D*Po)≤V/(P1*Po)/top:=by
 rw[Nat.le_div_iff_mul_le ht,Nat.le_div_iff_mul_le (Nat.mul_pos hP1 hPo)];have h:=Nat.div_mul_le_self V (D*Po);generalize V/(D*Po)=q at *;have d:q*(top*P1*Po)≤q*(D*Po):=Nat.mul_le_mul_left _ (Nat.mul_le_mul_right _ hD)
 have e:q*top*(P1*Po)=q*(top*P1*Po):=by grind
 rw[e]
 omega
theorem guess_word(V D n o:Nat)(hD:D<pw (n+1))(hV:V<pw (o+n+2))(ht:0<wd D n):
 V/(D*pw o)≤(wd V (o+n+1)*18446744073709551616+wd V (o+n))/wd D n:=by
 have f:=top_two V (o+n) hV
 have h:wd D n*pw n≤D:=by rw[←top_one D n hD];exact Nat.div_mul_le_self _ _
 have d:=guess_ge V D (pw n) (pw o) (wd D n) (pw_pos n) (pw_pos o) ht h;rw[←pw_add,Nat.add_comm n o,f]at d;exact d
theorem guess_full(V D o:Nat)(hV:V<D*pw (o+1)):V/(D*pw o)≤18446744073709551615:=by
 have h:V/(D*pw o)<18446744073709551616:=by
  rw[pow_succ64]at hV
  by_cases h0:0<D*pw o
  ·rw[Nat.div_lt_iff_lt_mul h0]
   have e:18446744073709551616*(D*pw o)=D*(pw o*18446744073709551616):=by grind
   omega
  ·rw[show D*pw o=0 from by omega,Nat.div_zero]
   decide
 omega
theorem take_ok(V U t Z:Nat)(hU:0<U)(ht:V/U≤t)(h:Z+t*U=V):Z<U:=by
 have d:=Nat.lt_div_mul_add (a:=V) hU;have f:V/U*U≤t*U:=Nat.mul_le_mul_right _ ht
 omega
theorem take_pos(V U R t Z:Nat)(hZ:Z<R)(h:Z+t*U=V+R):0<t:=by
 cases t with
 | zero=>omega
 | succ n=>omega
theorem take_back(V U R t Z Y c:Nat)(ht:0<t)(h:Z+t*U=V+R)(hb:Y+c*R=Z+U):Y+c*R+(t-1)*U=V+R:=by
 obtain⟨n,rfl⟩:∃n,t=n+1:=⟨t-1,by omega⟩;rw[Nat.add_sub_cancel];rw[Nat.add_mul]at h
 omega
theorem split_end(W D u Q V m:Nat)(hD:D=m*u)(hu:0<u)(h:W*u=V+D*Q)(hV:V<D):W/m=Q∧V/u=W%m:=by
 subst hD
 have j:0<m:=by
  cases m with
  | zero=>rw[Nat.zero_mul]at hV;omega
  | succ n=>omega
 have d:W=V/u+m*Q:=by
  have e:V+m*u*Q=V+m*Q*u:=by grind
  rw[e]at h
  have f:W*u/u=(V+m*Q*u)/u:=by rw[h]
  rw[Nat.mul_div_cancel _ hu,Nat.add_mul_div_right _ _ hu]at f;exact f
 have i:V/u<m:=by rw[Nat.div_lt_iff_lt_mul hu];exact hV
 refine⟨?_,?_⟩
 ·rw[d,Nat.add_mul_div_left _ _ j,Nat.div_eq_of_lt i,Nat.zero_add]
 ·rw[d,Nat.add_mul_mod_self_left,Nat.mod_eq_of_lt i]
end
section
def Gs(x v q d r:Nat):Prop:=x=d*v+r∧q≤d
def Gf(x v1 v0 u0 q d:Nat):Prop:=q≤d∧d<4294967296∧d*(v1*4294967296+v0)≤x*4294967296+u0
theorem gs_start(x v q:Nat)(hv:0<v)(h:q*v≤x):Gs x v q (x/v) (x%v):=by
 refine⟨?_,?_⟩
 ·simp[Nat.div_add_mod,Nat.mul_comm]
 ·rw[Nat.le_div_iff_mul_le hv];exact h
theorem gs_dec(x v1 v0 u0 q d r:Nat)(h:Gs x v1 q d r)(hq:q<4294967296)(hX:q*(v1*4294967296+v0)≤x*4294967296+u0)(ht:4294967296≤d∨r*4294967296+u0<d*v0):
 0<d∧Gs x v1 q (d-1) (r+v1):=by
 obtain⟨i,j⟩:=h
 have f:q<d:=by
  rcases ht with ht|ht
  ·omega
  ·grind
 refine⟨by omega,?_,by omega⟩;obtain⟨n,rfl⟩:∃n,d=n+1:=⟨d-1,by omega⟩
 grind
theorem gs_break(x v1 v0 u0 q d r:Nat)(h0:v0<4294967296)(h:Gs x v1 q d r)(hr:4294967296≤r)(hx:x≤v1*4294967296+4294967295):Gf x v1 v0 u0 q d:=by
 obtain⟨f,i⟩:=h
 have j:d<4294967296:=by
  have:d*v1<4294967296*v1:=by omega
  exact Nat.lt_of_mul_lt_mul_right this
 refine⟨i,j,?_⟩;have l:d*v0≤4294967295*4294967295:=Nat.mul_le_mul (by omega) (by omega)
 have e:d*(v1*4294967296+v0)=d*v1*4294967296+d*v0:=by grind
 rw[e,f,Nat.add_mul]
 omega
theorem gs_stop(x v1 v0 u0 q d r:Nat)(h:Gs x v1 q d r)(h1:d<4294967296)(h2:d*v0≤r*4294967296+u0):Gf x v1 v0 u0 q d:=by
 obtain⟨f,i⟩:=h;refine⟨i,h1,?_⟩
 have e:d*(v1*4294967296+v0)=d*v1*4294967296+d*v0:=by grind
 rw[e,f,Nat.add_mul]
 omega
theorem gf_two(x v1 v0 u0 y d:Nat)(hy:y=v1*4294967296+v0)(h0:0<y)(h:Gf x v1 v0 u0 ((x*4294967296+u0)/y) d):d=(x*4294967296+u0)/y:=by
 obtain⟨i,j,f⟩:=h;rw[←hy,←Nat.le_div_iff_mul_le h0]at f
 omega
theorem two_digits(h l1 l0 y q1 q0 r:Nat)(hy:0<y)(e1:q1=(h*4294967296+l1)/y)(er:r=(h*4294967296+l1)%y)(e0:q0=(r*4294967296+l0)/y):
 (h*18446744073709551616+(l1*4294967296+l0))/y=q1*4294967296+q0:=by
 have d:=Nat.div_add_mod (h*4294967296+l1) y;rw[←e1,←er]at d
 have e:h*18446744073709551616+(l1*4294967296+l0)=r*4294967296+l0+y*(q1*4294967296):=by
  grind
 rw[e,Nat.add_mul_div_left _ _ hy,←e0,Nat.add_comm]
end
section
def sg(β:Bool):Int:=if β then -1 else 1
theorem sg_not(β:Bool):sg (!β) = - sg β:=by cases β <;> rfl
structure EI(a m lv lf tv tf:Nat)(β:Bool):Prop where
 lt:tv<lv
 sum:lv*tf+tv*lf=m
 le:lf≤m
 last:(m:Int)∣(a:Int)*lf-sg β*lv
 this:(m:Int)∣(a:Int)*tf+sg β*tv
 gcd:Nat.gcd lv tv=Nat.gcd m a
theorem EI.start(a m:Nat)(h:a<m):EI a m m 0 a 1 true:=by
 refine⟨h,by simp,by omega,?_,?_,rfl⟩
 ·simp
 ·refine⟨0,?_⟩;simp[sg]
  omega
theorem EI.step{a m lv lf tv tf:Nat}{β:Bool}(h:EI a m lv lf tv tf β)(h0:0<tv):EI a m tv tf (lv%tv) (lf+lv/tv*tf) (!β):=by
 have x:=Nat.div_add_mod lv tv;have A:=h.sum;have C:=h.lt;generalize hq:lv/tv=q at *;generalize hr:lv%tv=r at *
 have f:r<tv:=by rw[←hr];exact Nat.mod_lt _ h0
 refine⟨f,?_,?_,?_,?_,?_⟩
 ·rw[←A,←x]
  grind
 ·have D:1*tf≤lv*tf:=Nat.mul_le_mul_right _ (by omega)
  omega
 ·rw[sg_not];obtain⟨c,i⟩:=h.this;exact⟨c,by rw[←i];grind⟩
 ·rw[sg_not];obtain⟨c,i⟩:=h.this;obtain⟨d,j⟩:=h.last;refine⟨d+q*c,?_⟩
  have l:(lv:Int)=tv*q+r:=by
   have:((tv*q+r:Nat):Int)=(lv:Int):=by rw[x]
   rw[←this];simp
  rw[Int.mul_add,←j]
  have e:(m:Int)*(q*c)=q*(m*c):=by grind
  rw[e,←i,l]
  have B:((lf+q*tf:Nat):Int)=(lf:Int)+q*tf:=by simp
  rw[B]
  grind
 ·rw[←h.gcd,←hr,Nat.gcd_comm lv tv,Nat.gcd_rec tv lv,Nat.gcd_comm]
theorem EI.fits{a m lv lf tv tf:Nat}{β:Bool}(h:EI a m lv lf tv tf β)(h0:0<tv):lf+lv/tv*tf≤m:=by
 have d:=(h.step h0).sum;have f:1*(lf+lv/tv*tf)≤tv*(lf+lv/tv*tf):=Nat.mul_le_mul_right _ h0
 omega
theorem EI.val{a m lv lf tv tf:Nat}{β:Bool}(h:EI a m lv lf tv tf β)(h0:0<tf∨lv≤m):lv≤m:=by
 rcases h0 with h0|h0
 ·have d:=h.sum;have f:lv*1≤lv*tf:=Nat.mul_le_mul_left _ h0
  omega
 ·exact h0
theorem inv_pos(x m:Nat)(c:Int)(hm:1<m)(h:(x:Int)-1=m*c):∃k:Nat,x=1+m*k:=by
 have d:0≤c:=by
  by_cases d:0≤c
  ·exact d
  ·exfalso
   have f:(m:Int)*c≤m*(-1):=Int.mul_le_mul_of_nonneg_left (by omega) (by omega)
   omega
 obtain⟨k,rfl⟩:=Int.eq_ofNat_of_zero_le d;refine⟨k,?_⟩
 have:(m:Int)*k=((m*k:Nat):Int):=by simp
 rw[this]at h
 omega
theorem inv_one(a m x y:Nat)(hx:x<m)(hy:y<m)(ex:a*x%m=1)(ey:a*y%m=1):x=y:=by
 have d:x*(a*y)%m=x%m:=by rw[Nat.mul_mod,ey,Nat.mul_one,Nat.mod_mod]
 have f:y*(a*x)%m=y%m:=by rw[Nat.mul_mod,ex,Nat.mul_one,Nat.mod_mod]
 have e:x*(a*y)=y*(a*x):=by grind
 rw[e,f,Nat.mod_eq_of_lt hx,Nat.mod_eq_of_lt hy]at d;exact d.symm
end
section
def Prm(p:Nat):Prop:=2≤p∧∀d,d∣p→d=1∨d=p
theorem Prm.cop{p a:Nat}(h:Prm p)(na:¬p∣a):Nat.Coprime p a:=by
 rcases h.2 (Nat.gcd p a) (Nat.gcd_dvd_left p a) with g|g
 ·exact g
 grind [Nat.gcd_dvd_right]
theorem Prm.dvd_mul{p a b:Nat}(h:Prm p)(d:p∣a*b):p∣a∨p∣b:=by
 by_cases na:p∣a
 ·exact .inl na
 ·exact .inr ((h.cop na).dvd_of_dvd_mul_left d)
theorem Prm.dvd_pow{p a:Nat}(h:Prm p):∀e,p∣a^e→p∣a
 | 0,d=>by
  have:=Nat.le_of_dvd (by simp) d;have:=h.1;simp at *
  omega
 | e+1,d=>by
  rw[Nat.pow_succ]at d
  rcases h.dvd_mul d with x|x
  ·exact Prm.dvd_pow h e x
  ·exact x
theorem prm_ex:∀n N:Nat,N≤n→2≤N→∃p,Prm p∧p∣N
 | 0,N,h,h2=>by omega
 | n+1,N,h,h2=>by
  by_cases hp:Prm N
  ·exact⟨N,hp,Nat.dvd_refl N⟩
  ·have:∃d,d∣N∧d≠1∧d≠N:=by
    apply Classical.byContradiction
    intro j
    apply hp
    refine⟨h2,fun d f=>?_⟩
    apply Classical.byContradiction
    intro i;exact j ⟨d,f,fun e=>i (.inl e),fun e=>i (.inr e)⟩
   obtain⟨d,f,q,nN⟩:=this;have le:=Nat.le_of_dvd (by omega) f
   have:d≠0:=by rintro rfl;have:=Nat.eq_zero_of_zero_dvd f;omega
   obtain⟨p,pp,l⟩:=prm_ex n d (by omega) (by omega);exact⟨p,pp,Nat.dvd_trans l f⟩
theorem prm_sq{N:Nat}(h2:2≤N)(hp:¬Prm N):∃p,Prm p∧p∣N∧p*p≤N:=by
 have:∃d,d∣N∧d≠1∧d≠N:=by
  apply Classical.byContradiction
  intro f
  apply hp
  refine⟨h2,fun d j=>?_⟩
  apply Classical.byContradiction
  intro i;exact f ⟨d,j,fun e=>i (.inl e),fun e=>i (.inr e)⟩
 obtain⟨d,⟨c,f⟩,l,nN⟩:=this
 have q:d≠0:=by rintro rfl;omega
 have x:c≠0:=by rintro rfl;omega
 have A:c≠1:=by rintro rfl;omega
 by_cases le:d≤c
 ·obtain⟨p,pp,h⟩:=prm_ex d d (Nat.le_refl d) (by omega);refine⟨p,pp,Nat.dvd_trans h ⟨c,f⟩,?_⟩;have:=Nat.le_of_dvd (by omega) h;rw[f];exact Nat.le_trans (Nat.mul_le_mul this this) (Nat.mul_le_mul_left d le)
 ·obtain⟨p,pp,h⟩:=prm_ex c c (Nat.le_refl c) (by omega);refine⟨p,pp,Nat.dvd_trans h ⟨d,by rw[f,Nat.mul_comm]⟩,?_⟩;have:=Nat.le_of_dvd (by omega) h;rw[f];exact Nat.le_trans (Nat.mul_le_mul this this) (Nat.mul_le_mul_right c (by omega))
def ch:Nat→Nat→Nat
 | _,0=>1
 | 0,_+1=>0
 | n+1,k+1=>ch n k+ch n (k+1)
theorem ch_none:∀n k,n<k→ch n k=0
 | 0,k+1,_=>rfl
 | n+1,k+1,h=>by rw[ch,ch_none n k (by omega),ch_none n (k+1) (by omega)]
theorem ch_self:∀n,ch n n=1
 | 0=>rfl
 | n+1=>by rw[ch,ch_self n,ch_none n (n+1) (by omega)]
theorem ch_zero(n:Nat):ch n 0=1:=by cases n <;> rfl
theorem ch_mul:∀n k,(k+1)*ch (n+1) (k+1)=(n+1)*ch n k
 | 0,0=>rfl
 | 0,k+1=>by simp[ch]
 | n+1,0=>by
  have:=ch_mul n 0;simp only[ch,ch_zero]at *
  omega
 | n+1,k+1=>by
  have d:=ch_mul n k;have f:=ch_mul n (k+1);rw[ch,Nat.mul_add]
  have h:(k+1+1)*ch (n+1) (k+1)=(n+1)*ch n k+ch (n+1) (k+1):=by rw[Nat.add_mul (k+1) 1,d,Nat.one_mul]
  rw[h,f];have i:ch (n+1) (k+1)=ch n k+ch n (k+1):=rfl;rw[i,Nat.add_mul (n+1) 1,Nat.mul_add,Nat.one_mul]
  omega
def su(f:Nat→Nat):Nat→Nat
 | 0=>0
 | n+1=>su f n+f n
theorem su_add(f g:Nat→Nat):∀n,su (fun k=>f k+g k) n=su f n+su g n
 | 0=>rfl
 | n+1=>by rw[su,su,su,su_add f g n];omega
theorem su_mul(f:Nat→Nat)(c:Nat):∀n,su (fun k=>c*f k) n=c*su f n
 | 0=>rfl
 | n+1=>by rw[su,su,su_mul f c n,Nat.mul_add]
theorem su_head(f:Nat→Nat):∀n,su f (n+1)=f 0+su (fun k=>f (k+1)) n
 | 0=>by simp[su]
 | n+1=>by rw[su,su_head f n,su];omega
theorem su_congr(f g:Nat→Nat):∀n,(∀k,k<n→f k=g k)→su f n=su g n
 | 0,_=>rfl
 | n+1,h=>by rw[su,su,su_congr f g n (fun k l=>h k (by omega)),h n (by omega)]
theorem su_dvd(p:Nat)(f:Nat→Nat):∀n,(∀k,k<n→p∣f k)→p∣su f n
 | 0,_=>Nat.dvd_zero p
 | n+1,h=>(Nat.dvd_add_right (su_dvd p f n (fun k l=>h k (by omega)))).mpr (h n (by omega))
theorem binom(a:Nat):∀n,(a+1)^n=su (fun k=>ch n k*a^k) (n+1)
 | 0=>by simp[su,ch]
 | n+1=>by
  rw[Nat.pow_succ,binom a n,su_head (fun k=>ch (n+1) k*a^k)]
  have e:su (fun k=>ch (n+1) (k+1)*a^(k+1)) (n+1)=su (fun k=>a*(ch n k*a^k)) (n+1)+su (fun k=>ch n (k+1)*a^(k+1)) (n+1):=by
   rw[←su_add]
   apply su_congr
   intro k _;rw[ch,Nat.add_mul,Nat.pow_succ];simp[Nat.mul_comm,Nat.mul_assoc]
  have d:su (fun k=>ch n (k+1)*a^(k+1)) (n+1)=su (fun k=>ch n (k+1)*a^(k+1)) n:=by
   show su (fun k=>ch n (k+1)*a^(k+1)) n+ch n (n+1)*a^(n+1)=_
   rw[ch_none n (n+1) (by omega)];omega
  rw[e,d,su_mul]
  have f:su (fun k=>ch n k*a^k) (n+1)=1+su (fun k=>ch n (k+1)*a^(k+1)) n:=by
   rw[su_head];simp[ch_zero]
  have h:ch (n+1) 0*a^0=1:=by simp[ch_zero]
  rw[Nat.mul_add,Nat.mul_one,h,Nat.mul_comm];rw[f]
  omega
theorem fermat0{p:Nat}(h:Prm p):∀a,∃c,a^p=a+p*c
 | 0=>by
  have:=h.1;exact⟨0,by rw[Nat.zero_pow (by omega)];simp⟩
 | a+1=>by
  obtain⟨c,l⟩:=fermat0 h a;have b:=binom a p;have i:=h.1
  cases p with
  | zero=>omega
  | succ n=>
  rw[su,su_head,ch_zero,ch_self,l]at b
  have d:n+1∣su (fun k=>ch (n+1) (k+1)*a^(k+1)) n:=by
   apply su_dvd
   intro k j;refine Nat.dvd_trans ?_ (Nat.dvd_mul_right _ _);have e:=ch_mul n k;have:n+1∣(k+1)*ch (n+1) (k+1):=⟨_,e⟩
   rcases h.dvd_mul this with x|x
   ·have:=Nat.le_of_dvd (by omega) x;omega
   ·exact x
  obtain⟨s,f⟩:=d;refine⟨s+c,?_⟩;rw[Nat.pow_zero]at b;rw[b,f,Nat.mul_add (n+1) s c]
  omega
theorem Prm.fermat{p a:Nat}(h:Prm p)(na:¬p∣a):a^(p-1)%p=1:=by
 obtain⟨c,e⟩:=fermat0 h a;have j:=h.1;have f:0<a:=Nat.pos_of_ne_zero (fun e=>na (e▸Nat.dvd_zero p))
 have i:a^p=a^(p-1)*a:=by
  conv=>lhs;rw[show p=p-1+1 by omega,Nat.pow_succ]
 have l:1≤a^(p-1):=Nat.pow_pos f
 have d:p∣a*(a^(p-1)-1):=by
  refine⟨c,?_⟩;rw[Nat.mul_sub,Nat.mul_comm a,←i,e]
  omega
 rcases h.dvd_mul d with x|x
 ·exact absurd x na
 ·obtain⟨k,q⟩:=x
  have:a^(p-1)=1+p*k:=by omega
  rw[this,Nat.add_mul_mod_self_left,Nat.mod_eq_of_lt (by omega)]
theorem pow_mod1{g m x:Nat}(h:g^x%m=1%m)(k:Nat):g^(x*k)%m=1%m:=by
 rw[Nat.pow_mul,Nat.pow_mod,h,←Nat.pow_mod,Nat.one_pow]
theorem pow_gcd{g m:Nat}:∀n x y,x≤n→g^x%m=1%m→g^y%m=1%m→g^(Nat.gcd x y)%m=1%m
 | n,0,y,_,_,hy=>by simpa using hy
 | 0,x+1,y,l,_,_=>by omega
 | n+1,x+1,y,l,hx,hy=>by
  rw[Nat.gcd_rec]
  apply pow_gcd n (y%(x+1)) (x+1) (by have:=Nat.mod_lt y (show x+1 > 0 by omega);omega) ?_ hx
  have e:g^y%m=g^(y%(x+1))%m:=by
   conv=>lhs;rw[←Nat.div_add_mod y (x+1),Nat.pow_add,Nat.mul_mod,pow_mod1 hx,←Nat.mul_mod,Nat.one_mul]
  rw[←e,hy]
theorem dvd_qe{q d e:Nat}(h:Prm q)(hd:d∣q^(e+1)):d=q^(e+1)∨d∣q^e:=by
 obtain⟨c,f⟩:=hd
 have i:0<q:=by have:=h.1;omega
 by_cases c1:c=1
 ·left;rw[f,c1,Nat.mul_one]
 ·right
  have C:c≠0:=by rintro rfl;have:=Nat.pow_pos (n:=e+1) i;omega
  obtain⟨r,j,l⟩:=prm_ex c c (Nat.le_refl c) (by omega);have:r∣q:=j.dvd_pow (e+1) (f▸Nat.dvd_trans l (Nat.dvd_mul_left c d))
  have A:r=q:=by
   rcases h.2 r this with x|x
   ·have:=j.1;omega
   ·exact x
  subst A;obtain⟨k,B⟩:=l;refine⟨k,?_⟩
  apply Nat.eq_of_mul_eq_mul_right i
  rw[←Nat.pow_succ,f,B];simp[Nat.mul_comm,Nat.mul_left_comm]
theorem pock1{N p q e a:Nat}(pp:Prm p)(pN:p∣N)(pq:Prm q)(qd:q^(e+1)∣N-1)(h1:a^(N-1)%N=1%N)(hg:Nat.gcd ((a^((N-1)/q)+(N-1))%N) N=1)(N2:2≤N):q^(e+1)∣p-1:=by
 obtain⟨m,h⟩:=qd
 have j:0<q:=by have:=pq.1;omega
 have I:=pp.1
 have d:a^(N-1)%p=1%p:=by
  have:=congrArg (· % p) h1
  simpa [Nat.mod_mod_of_dvd _ pN]using this
 have l:¬p∣a:=by
  intro A;have:p∣a^(N-1):=Nat.dvd_trans A (by rw[show N-1=(N-2)+1 by omega,Nat.pow_succ];exact Nat.dvd_mul_left _ _);rw[Nat.mod_eq_zero_of_dvd this,Nat.mod_eq_of_lt (by omega)]at d
  omega
 have B:(a^m)^(p-1)%p=1%p:=by
  rw[←Nat.pow_mul,Nat.mul_comm,Nat.pow_mul,Nat.pow_mod,pp.fermat l,Nat.one_pow]
 have C:(a^m)^(q^(e+1))%p=1%p:=by
  rw[←Nat.pow_mul,Nat.mul_comm m,←h];exact d
 have f:=pow_gcd _ (q^(e+1)) (p-1) (Nat.le_refl _) C B
 rcases dvd_qe pq (Nat.gcd_dvd_left (q^(e+1)) (p-1)) with x|x
 ·exact x▸Nat.gcd_dvd_right _ _
 ·exfalso
  obtain⟨k,D⟩:=x
  have i:(a^m)^(q^e)%p=1%p:=by rw[D];exact pow_mod1 f k
  have G:(N-1)/q=m*q^e:=by
   rw[h,Nat.pow_succ,Nat.mul_comm (q^e) q,Nat.mul_assoc,Nat.mul_div_cancel_left _ j,Nat.mul_comm]
  rw[←Nat.pow_mul,←G]at i
  -- p divides a^((N-1)/q) + (N - 1)
  have H:p∣(a^((N-1)/q)+(N-1))%N:=by
   apply Nat.dvd_of_mod_eq_zero
   rw[Nat.mod_mod_of_dvd _ pN,Nat.add_mod,i,←Nat.add_mod];rw[show 1+(N-1)=N by omega];exact Nat.mod_eq_zero_of_dvd pN
  have:=Nat.dvd_gcd H pN;rw[hg]at this;have:=Nat.le_of_dvd (by omega) this
  omega
def pmF:Nat→Nat→Nat→Nat→Nat
 | 0,_,_,m=>1%m
 | f+1,a,e,m=>bif Nat.beq e 0 then 1%m else bif Nat.beq (e%2) 1 then a*pmF f (a*a%m) (e/2) m%m else pmF f (a*a%m) (e/2) m
theorem pmF_is:∀f a e m,e<2^f→pmF f a e m=a^e%m
 | 0,a,e,m,h=>by
  have:e=0:=by simpa using h
  subst this;rfl
 | f+1,a,e,m,h=>by
  rw[pmF]
  by_cases e0:e=0
  ·subst e0;simp
  ·have i:Nat.beq e 0=false:=by cases e with|zero=>exact absurd rfl e0|succ n=>rfl
   have j:e/2<2^f:=by rw[Nat.pow_succ]at h;omega
   rw[i,cond_false,pmF_is f (a*a%m) (e/2) m j]
   have d:(a*a%m)^(e/2)%m=a^(2*(e/2))%m:=by
    rw[←Nat.pow_mod,Nat.pow_mul,Nat.pow_two]
   by_cases e1:e%2=1
   ·rw[show Nat.beq (e%2) 1=true by rw[e1];rfl,cond_true,Nat.mul_mod,Nat.mod_mod,d,←Nat.mul_mod,Nat.mul_comm,←Nat.pow_succ];rw[show (2*(e/2)).succ=e by omega]
   ·rw[show e%2=0 by omega,show Nat.beq 0 1=false from rfl,cond_false,d,show 2*(e/2)=e by omega]
def qp(q:Nat):Nat→Nat
 | 0=>1
 | e+1=>qp q e*q
theorem qp_is(q:Nat):∀e,qp q e=q^e
 | 0=>rfl
 | e+1=>by rw[qp,qp_is q e,Nat.pow_succ]
def certRow(f N q e a:Nat):Bool:=
 Nat.beq ((N-1)%qp q (e+1)) 0&&(Nat.beq (pmF f a (N-1) N) 1&&Nat.beq (Nat.gcd ((pmF f a ((N-1)/q) N+(N-1))%N) N) 1)
def rowsOk(f N:Nat):Nat→List (Nat×Nat×Nat)→Bool
 | F,[]=>Nat.ble (N+1) (F*F)
 | F,(q,e,a) :: l=>certRow f N q e a&&(Nat.beq (Nat.gcd F (qp q (e+1))) 1&&rowsOk f N (F*qp q (e+1)) l)
theorem rows_dvd{f N p:Nat}(hf:N<2^f)(N2:2≤N)(pp:Prm p)(pN:p∣N):
 ∀l F,rowsOk f N F l=true→(∀r∈l,Prm r.1)→F∣p-1→N<p*p
 | [],F,h,_,d=>by
  have h:=Nat.le_of_ble_eq_true h;have:=pp.1;have:=Nat.le_of_dvd (by omega) d;have:=Nat.mul_le_mul this this;have:(p-1)*(p-1)≤p*p:=Nat.mul_le_mul (by omega) (by omega)
  omega
 | (q,e,a) :: l,F,h,hq,d=>by
  rw[rowsOk,certRow]at h;simp only[Bool.and_eq_true]at h;obtain⟨⟨j,x,i⟩,c,r⟩:=h;have j:=Nat.eq_of_beq_eq_true j;have x:=Nat.eq_of_beq_eq_true x;have i:=Nat.eq_of_beq_eq_true i;have c:=Nat.eq_of_beq_eq_true c;rw[qp_is]at j c;rw[pmF_is _ _ _ _ (by omega)]at x;have:(N-1)/q≤N-1:=Nat.div_le_self _ _;rw[pmF_is _ _ _ _ (by omega)]at i;have A:q^(e+1)∣p-1:=pock1 (a:=a) pp pN (hq (q,e,a) (by simp)) (Nat.dvd_of_mod_eq_zero j) (by rw[x,Nat.mod_eq_of_lt (by omega)]) (by rw[Nat.mod_add_mod]at i;exact i) N2;refine rows_dvd hf N2 pp pN l (F*qp q (e+1)) r (fun r B=>hq r (by simp[B])) ?_;rw[qp_is];exact Nat.Coprime.mul_dvd_of_dvd_of_dvd c d A
theorem prm_of{f N:Nat}(l:List (Nat×Nat×Nat))(hf:N<2^f)(N2:2≤N)(h:rowsOk f N 1 l=true)(hq:∀r∈l,Prm r.1):Prm N:=by
 apply Classical.byContradiction
 intro d;obtain⟨p,pp,i,j⟩:=prm_sq N2 d;have:=rows_dvd hf N2 pp i l 1 h hq (Nat.one_dvd _)
 omega
def noDiv(n:Nat):Nat→Bool
 | 0=>true
 | k+1 => !Nat.beq (n%(k+2)) 0&&noDiv n k
theorem noDiv_is(n:Nat):∀k,noDiv n k=true→∀d,2≤d→d<k+2→¬d∣n
 | 0,_,d,h2,hl=>by omega
 | k+1,h,d,h2,hl=>by
  rw[noDiv]at h;simp only[Bool.and_eq_true,Bool.not_eq_true']at h
  by_cases e:d=k+2
  ·subst e;intro hd;rw[Nat.mod_eq_zero_of_dvd hd]at h;exact absurd h.1 (by decide)
  ·exact noDiv_is n k h.2 d h2 (by omega)
theorem prm_small{n:Nat}(k:Nat)(h2:2≤n)(hk:n<(k+2)*(k+2))(h:noDiv n k=true):Prm n:=by
 apply Classical.byContradiction
 intro d;obtain⟨p,pp,f,i⟩:=prm_sq h2 d
 by_cases l:p<k+2
 ·exact noDiv_is n k h p pp.1 l f
 ·have:(k+2)*(k+2)≤p*p:=Nat.mul_le_mul (by omega) (by omega)
  omega
end
section
theorem take_snoc(s:ByteArray)(k:Nat)(h:k<s.size):s.data.toList.take (k+1)=s.data.toList.take k++[s[k]]:=by
 rw[List.take_succ_eq_append_getElem (by simpa using h)];rfl
end
end Go.Proofs.Ytffhepbppiocbaa