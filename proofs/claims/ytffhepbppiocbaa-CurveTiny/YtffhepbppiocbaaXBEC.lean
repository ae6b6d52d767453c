import Derived.Laws.Bits64b
import Derived.Test.YtffhepbppiocbaaXBNumM
namespace Go.Proofs.Ytffhepbppiocbaa
open Go.RowKit
set_option maxRecDepth 100000
set_option maxHeartbeats 8000000
section
theorem pow64(p:Nat)(h:p≤64):2^(64-p)*2^p=18446744073709551616:=by
 rw[←Nat.pow_add,show 64-p+p=64 from by omega]
theorem int_pow(p:Nat):(2:Int)^p=((2^p:Nat):Int):=by simp
theorem or_add(x d p:Nat)(hd:d<2^p):x*2^p|||d=x*2^p+d:=by
 rw[←Nat.shiftLeft_eq,Nat.shiftLeft_add_eq_or_of_lt hd]
theorem shl_mod(x p:Nat)(hp:p≤64):x*2^p%18446744073709551616=(x%2^(64-p))*2^p:=by
 rw[←pow64 p hp,Nat.mul_mod_mul_right]
theorem shl_div(x p:Nat)(hp:p≤64):x*2^p/18446744073709551616=x/2^(64-p):=by
 rw[←pow64 p hp,Nat.mul_div_mul_right _ _ (Nat.two_pow_pos p)]
theorem shl_lt(x d p:Nat)(hp:p≤64)(hd:d<2^p):x*2^p%18446744073709551616+d<18446744073709551616:=by
 rw[shl_mod x p hp];have f:=Nat.mod_lt x (Nat.two_pow_pos (64-p));have h:=pow64 p hp;have i:(x%2^(64-p)+1)*2^p≤2^(64-p)*2^p:=Nat.mul_le_mul_right _ f
 grind
theorem pow_lt64(p:Nat)(hp:p<64):2^p<18446744073709551616:=by
 have:=Nat.pow_lt_pow_right (a:=2) (by decide) hp;exact this
theorem shl_word(x d p:Nat)(hp:p<64)(hd:d<2^p):
 bits BinOp.or IntKind.u64 (IntKind.u64.wrap ((x:Int)*2^p)) (d:Int)=((x*2^p%18446744073709551616+d:Nat):Int):=by
 have e:IntKind.u64.wrap ((x:Int)*2^p)=((x*2^p%18446744073709551616:Nat):Int):=by
  rw[IntKind.wrap_u64,int_pow,←Int.natCast_mul];omega
 have f:=pow_lt64 p hp;rw[e,bits_or_u64_nat _ _ (Nat.mod_lt _ (by decide)) (by omega),shl_mod x p (by omega),or_add _ _ _ hd]
theorem shl_carry(x p:Nat)(hp:p<64):(x:Int)/2^(64-p)=((x*2^p/18446744073709551616:Nat):Int):=by
 rw[shl_div x p (by omega),int_pow,←Int.natCast_ediv]
theorem shl_carry_lt(x p:Nat)(hx:x<18446744073709551616):x*2^p/18446744073709551616<2^p:=by
 rw[Nat.div_lt_iff_lt_mul (by decide),Nat.mul_comm];exact Nat.mul_lt_mul_of_pos_left hx (Nat.two_pow_pos p)
theorem shl_step(a s p j U d:Nat)(h:U+d*pw (s+j)=(a%pw j)*(pw s*2^p)):
 U+(wd a j*2^p%18446744073709551616+d)*pw (s+j)+wd a j*2^p/18446744073709551616*pw (s+(j+1))=(a%pw (j+1))*(pw s*2^p):=by
 have f:=Nat.div_add_mod (wd a j*2^p) 18446744073709551616;rw[mod_succ,Nat.add_mul (a%pw j),←h]
 have i:wd a j*pw j*(pw s*2^p)=wd a j*2^p*pw (s+j):=by
  rw[pw_add,Nat.mul_assoc,Nat.mul_assoc,←Nat.mul_assoc (pw j),Nat.mul_comm (pw j*pw s),Nat.mul_comm (pw j)]
 rw[i,show s+(j+1)=s+j+1 from rfl,pow_succ64];generalize wd a j*2^p=m at *;generalize m/18446744073709551616=q at *;generalize m%18446744073709551616=r at *;generalize pw (s+j)=P at *
 have l:(18446744073709551616*q+r)*P=m*P:=by rw[f]
 rw[Nat.add_mul]at l
 have x:q*(P*18446744073709551616)=18446744073709551616*q*P:=by
  rw[Nat.mul_comm P,←Nat.mul_assoc,Nat.mul_comm q]
 rw[x,Nat.add_mul]
 omega
theorem shl_next_lt(U x n:Nat)(hU:U<pw n)(hx:x<18446744073709551616):U+x*pw n<pw (n+1):=by
 rw[pow_succ64];have:x*pw n≤18446744073709551615*pw n:=Nat.mul_le_mul_right _ (by omega)
 omega
theorem shl_end(a s p j U d:Nat)(hsj:s+j=9)(hU:U<pw (s+j))(h:U+d*pw (s+j)=(a%pw j)*(pw s*2^p)):a*2^(64*s+p)%M=U:=by
 have f:pw (s+j)=M:=by rw[hsj];rfl
 have i:=Nat.div_add_mod a (pw j)
 have e:a*2^(64*s+p)=U+(d+a/pw j*2^p)*M:=by
  rw[Nat.pow_add,show 2^(64*s)=pw s from rfl]
  have l:a*(pw s*2^p)=(pw j*(a/pw j)+a%pw j)*(pw s*2^p):=by rw[i]
  rw[l,Nat.add_mul,←h,Nat.add_mul,f,←f,pw_add]
  have q:pw j*(a/pw j)*(pw s*2^p)=a/pw j*2^p*(pw s*pw j):=by
   rw[Nat.mul_comm (pw j),Nat.mul_assoc,Nat.mul_assoc,←Nat.mul_assoc (pw j),Nat.mul_comm (pw j*pw s),Nat.mul_comm (pw j)]
  rw[q]
  omega
 rw[e,Nat.add_mul_mod_self_right,Nat.mod_eq_of_lt (by rw[←f];exact hU)]
theorem shr_word(x A p:Nat)(hx:x<18446744073709551616)(hp:p<64):
 bits BinOp.or IntKind.u64 ((x:Int)/2^p) (((A%2^p)*2^(64-p):Nat):Int)=((x/2^p+(A%2^p)*2^(64-p):Nat):Int):=by
 have f:=Nat.mod_lt A (Nat.two_pow_pos p);have d:=pow64 p (by omega);have h:(A%2^p+1)*2^(64-p)≤2^p*2^(64-p):=Nat.mul_le_mul_right _ f;rw[Nat.add_mul,Nat.mul_comm (2^p),d]at h;have j:=Nat.two_pow_pos (64-p)
 have i:x/2^p<2^(64-p):=by rw[Nat.div_lt_iff_lt_mul (Nat.two_pow_pos p),d];exact hx
 rw[int_pow,←Int.natCast_ediv,bits_or_u64_nat _ _ (by omega) (by omega),Nat.or_comm,or_add _ _ _ i,Nat.add_comm]
theorem shr_carry(x p:Nat)(hp:p<64):IntKind.u64.wrap ((x:Int)*2^(64-p))=(((x%2^p)*2^(64-p):Nat):Int):=by
 have e:=shl_mod x (64-p) (by omega);rw[show 64-(64-p)=p from by omega]at e;rw[←e,IntKind.wrap_u64,int_pow,←Int.natCast_mul]
 omega
theorem shr_word_lt(x A p:Nat)(hx:x<18446744073709551616)(hp:p<64):x/2^p+(A%2^p)*2^(64-p)<18446744073709551616:=by
 have f:=Nat.mod_lt A (Nat.two_pow_pos p);have d:=pow64 p (by omega);have h:(A%2^p+1)*2^(64-p)≤2^p*2^(64-p):=Nat.mul_le_mul_right _ f;rw[Nat.add_mul,Nat.mul_comm (2^p),d]at h
 have i:x/2^p<2^(64-p):=by rw[Nat.div_lt_iff_lt_mul (Nat.two_pow_pos p),d];exact hx
 omega
theorem shr_div(A x p:Nat)(hp:p<64):(A*18446744073709551616+x)/2^p=A/2^p*18446744073709551616+(x/2^p+(A%2^p)*2^(64-p)):=by
 have d:=pow64 p (by omega);have f:=Nat.div_add_mod A (2^p)
 have e:A*18446744073709551616+x=x+A*2^(64-p)*2^p:=by rw[Nat.mul_assoc,d];omega
 rw[e,Nat.add_mul_div_right _ _ (Nat.two_pow_pos p)]
 have h:A*2^(64-p)=A/2^p*18446744073709551616+(A%2^p)*2^(64-p):=by
  rw[←d,Nat.mul_comm (2^(64-p)),←Nat.mul_assoc,←Nat.add_mul,Nat.mul_comm (A/2^p),f]
 rw[h]
 omega
theorem shr_mod(A x p:Nat)(hp:p<64):(A*18446744073709551616+x)%2^p=x%2^p:=by
 have d:=pow64 p (by omega);rw[←d,←Nat.mul_assoc,Nat.add_comm,Nat.add_mul_mod_self_right]
theorem div_step'(a j:Nat):a/pw j=a/pw (j+1)*18446744073709551616+wd a j:=by
 rw[pow_succ64,←Nat.div_div_eq_div_mul,wd]
 omega
theorem shr_step(a p n m:Nat)(hp:p<64):
 a/pw (n+1)/2^p*pw (m+1)+(wd a n/2^p+(a/pw (n+1)%2^p)*2^(64-p))*pw m=a/pw n/2^p*pw m:=by
 rw[div_step' a n,shr_div _ _ p hp,pow_succ64 m];generalize wd a n/2^p+(a/pw (n+1)%2^p)*2^(64-p)=t;generalize a/pw (n+1)/2^p=H;rw[Nat.add_mul,Nat.mul_comm (pw m),Nat.mul_assoc]
theorem nw_set_low(N H m x:Nat)(hx:x<18446744073709551616):(nw N (H*pw (m+1))).setIfInBounds m (Value.int .u64 x)=nw N (H*pw (m+1)+x*pw m):=by
 have d:H*pw (m+1)%pw m=0:=by rw[pow_succ64,←Nat.mul_assoc,Nat.mul_right_comm,Nat.mul_mod_left]
 have f:H*pw (m+1)/pw (m+1)=H:=Nat.mul_div_cancel _ (pw_pos _);rw[nw_set N _ m x hx,d,f,Nat.zero_add,Nat.add_comm]
end
section
theorem wset_eq(V p x:Nat):wset V p x+wd V p*pw p=V+x*pw p:=by
 grind [parts,wset]
theorem sub_step(V0 V D t o i carry bor y low carry' bor':Nat)(h:V+t*(D%pw i)*pw o=V0+(carry+bor)*pw (o+i))(hl:low+carry'*18446744073709551616=t*wd D i+carry)(hy:y+low+bor=wd V (o+i)+bor'*18446744073709551616):
 wset V (o+i) y+t*(D%pw (i+1))*pw o=V0+(carry'+bor')*pw (o+(i+1)):=by
 grind [wset_eq,mod_succ,pw,wd,wset]
theorem sub_last(V0 V E t o k carry bor y bor':Nat)(h:V+t*E*pw o=V0+(carry+bor)*pw (o+k))(hy:y+carry+bor=wd V (o+k)+bor'*18446744073709551616):
 wset V (o+k) y+t*E*pw o=V0+bor'*pw (o+(k+1)):=by
 grind [wset_eq,pw,wd,wset]
theorem back_step(V0 V D o i c y c':Nat)(h:V+c*pw (o+i)=V0+(D%pw i)*pw o)(hy:y+c'*18446744073709551616=wd V (o+i)+wd D i+c):
 wset V (o+i) y+c'*pw (o+(i+1))=V0+(D%pw (i+1))*pw o:=by
 have j:=wset_eq V (o+i) y;rw[mod_succ,show o+(i+1)=o+i+1 from rfl,pow_succ64];have f:=pw_add o i;generalize pw (o+i)=P at *;generalize D%pw i=E at *;generalize pw o=Q at *;generalize pw i=R at *;generalize wd D i=d at *;generalize wd V (o+i)=x at *;generalize wset V (o+i) y=Z at *;subst f
 grind
theorem back_last(V0 V E o k c y c':Nat)(h:V+c*pw (o+k)=V0+E*pw o)(hy:y+c'*18446744073709551616=wd V (o+k)+c):
 wset V (o+k) y+c'*pw (o+(k+1))=V0+E*pw o:=by
 have d:=wset_eq V (o+k) y;rw[show o+(k+1)=o+k+1 from rfl,pow_succ64];generalize pw (o+k)=P at *;generalize pw o=Q at *;generalize wd V (o+k)=x at *;generalize wset V (o+k) y=Z at *
 grind
theorem div_step2(a j:Nat):a/pw j=a/pw (j+1)*18446744073709551616+wd a j:=by
 unfold wd;rw[pow_succ64,←Nat.div_div_eq_div_mul]
 omega
theorem top_one(V j:Nat)(h:V<pw (j+1)):V/pw j=wd V j:=by
 rw[div_step2 V j,Nat.div_eq_of_lt h,Nat.zero_mul,Nat.zero_add]
theorem top_two(V j:Nat)(h:V<pw (j+2)):V/pw j=wd V (j+1)*18446744073709551616+wd V j:=by
 rw[div_step2 V j,top_one V (j+1) h]
theorem guess_ge(V D P1 Po top:Nat)(hP1:0<P1)(hPo:0<Po)(ht:0<top)(hD:top*P1≤D):V/(D*Po)≤V/(P1*Po)/top:=by
 rw[Nat.le_div_iff_mul_le ht,Nat.le_div_iff_mul_le (Nat.mul_pos hP1 hPo)];have h:=Nat.div_mul_le_self V (D*Po);generalize V/(D*Po)=q at *;have d:q*(top*P1*Po)≤q*(D*Po):=Nat.mul_le_mul_left _ (Nat.mul_le_mul_right _ hD)
 have e:q*top*(P1*Po)=q*(top*P1*Po):=by grind
 rw[e]
 omega
theorem guess_word(V D n o:Nat)(hD:D<pw (n+1))(hV:V<pw (o+n+2))(ht:0<wd D n):
 V/(D*pw o)≤(wd V (o+n+1)*18446744073709551616+wd V (o+n))/wd D n:=by
 have f:=top_two V (o+n) hV
 have h:wd D n*pw n≤D:=by rw[←top_one D n hD];exact Nat.div_mul_le_self _ _
 have d:=guess_ge V D (pw n) (pw o) (wd D n) (pw_pos n) (pw_pos o) ht h;rw[←pw_add,Nat.add_comm n o,f]at d;exact d
theorem guess_full(V D o:Nat)(hV:V<D*pw (o+1)):V/(D*pw o)≤18446744073709551615:=by
 have h:V/(D*pw o)<18446744073709551616:=by
  rw[pow_succ64]at hV
  by_cases h0:0<D*pw o
  ·rw[Nat.div_lt_iff_lt_mul h0]
   have e:18446744073709551616*(D*pw o)=D*(pw o*18446744073709551616):=by grind
   omega
  ·rw[show D*pw o=0 from by omega,Nat.div_zero]
   decide
 omega
theorem take_ok(V U t Z:Nat)(hU:0<U)(ht:V/U≤t)(h:Z+t*U=V):Z<U:=by
 have d:=Nat.lt_div_mul_add (a:=V) hU;have f:V/U*U≤t*U:=Nat.mul_le_mul_right _ ht
 omega
theorem take_pos(V U R t Z:Nat)(hZ:Z<R)(h:Z+t*U=V+R):0<t:=by
 cases t with
 | zero=>omega
 | succ n=>omega
theorem take_back(V U R t Z Y c:Nat)(ht:0<t)(h:Z+t*U=V+R)(hb:Y+c*R=Z+U):Y+c*R+(t-1)*U=V+R:=by
 obtain⟨n,rfl⟩:∃n,t=n+1:=⟨t-1,by omega⟩;rw[Nat.add_sub_cancel];rw[Nat.add_mul]at h
 omega
theorem split_end(W D u Q V m:Nat)(hD:D=m*u)(hu:0<u)(h:W*u=V+D*Q)(hV:V<D):W/m=Q∧V/u=W%m:=by
 subst hD
 have j:0<m:=by
  cases m with
  | zero=>rw[Nat.zero_mul]at hV;omega
  | succ n=>omega
 have d:W=V/u+m*Q:=by
  have e:V+m*u*Q=V+m*Q*u:=by grind
  rw[e]at h
  have f:W*u/u=(V+m*Q*u)/u:=by rw[h]
  rw[Nat.mul_div_cancel _ hu,Nat.add_mul_div_right _ _ hu]at f;exact f
 have i:V/u<m:=by rw[Nat.div_lt_iff_lt_mul hu];exact hV
 refine⟨?_,?_⟩
 ·rw[d,Nat.add_mul_div_left _ _ j,Nat.div_eq_of_lt i,Nat.zero_add]
 ·rw[d,Nat.add_mul_mod_self_left,Nat.mod_eq_of_lt i]
end
section
def Gs(x v q d r:Nat):Prop:=x=d*v+r∧q≤d
def Gf(x v1 v0 u0 q d:Nat):Prop:=q≤d∧d<4294967296∧d*(v1*4294967296+v0)≤x*4294967296+u0
theorem gs_start(x v q:Nat)(hv:0<v)(h:q*v≤x):Gs x v q (x/v) (x%v):=by
 refine⟨?_,?_⟩
 ·simp[Nat.div_add_mod,Nat.mul_comm]
 ·rw[Nat.le_div_iff_mul_le hv];exact h
theorem gs_dec(x v1 v0 u0 q d r:Nat)(h:Gs x v1 q d r)(hq:q<4294967296)(hX:q*(v1*4294967296+v0)≤x*4294967296+u0)(ht:4294967296≤d∨r*4294967296+u0<d*v0):
 0<d∧Gs x v1 q (d-1) (r+v1):=by
 obtain⟨i,j⟩:=h
 have f:q<d:=by
  rcases ht with ht|ht
  ·omega
  ·grind
 refine⟨by omega,?_,by omega⟩;obtain⟨n,rfl⟩:∃n,d=n+1:=⟨d-1,by omega⟩
 grind
theorem gs_break(x v1 v0 u0 q d r:Nat)(h0:v0<4294967296)(h:Gs x v1 q d r)(hr:4294967296≤r)(hx:x≤v1*4294967296+4294967295):Gf x v1 v0 u0 q d:=by
 obtain⟨f,i⟩:=h
 have j:d<4294967296:=by
  have:d*v1<4294967296*v1:=by omega
  exact Nat.lt_of_mul_lt_mul_right this
 refine⟨i,j,?_⟩;have l:d*v0≤4294967295*4294967295:=Nat.mul_le_mul (by omega) (by omega)
 have e:d*(v1*4294967296+v0)=d*v1*4294967296+d*v0:=by grind
 rw[e,f,Nat.add_mul]
 omega
theorem gs_stop(x v1 v0 u0 q d r:Nat)(h:Gs x v1 q d r)(h1:d<4294967296)(h2:d*v0≤r*4294967296+u0):Gf x v1 v0 u0 q d:=by
 obtain⟨f,i⟩:=h;refine⟨i,h1,?_⟩
 have e:d*(v1*4294967296+v0)=d*v1*4294967296+d*v0:=by grind
 rw[e,f,Nat.add_mul]
 omega
theorem gf_two(x v1 v0 u0 y d:Nat)(hy:y=v1*4294967296+v0)(h0:0<y)(h:Gf x v1 v0 u0 ((x*4294967296+u0)/y) d):d=(x*4294967296+u0)/y:=by
 obtain⟨i,j,f⟩:=h;rw[←hy,←Nat.le_div_iff_mul_le h0]at f
 omega
theorem two_digits(h l1 l0 y q1 q0 r:Nat)(hy:0<y)(e1:q1=(h*4294967296+l1)/y)(er:r=(h*4294967296+l1)%y)(e0:q0=(r*4294967296+l0)/y):
 (h*18446744073709551616+(l1*4294967296+l0))/y=q1*4294967296+q0:=by
 have d:=Nat.div_add_mod (h*4294967296+l1) y;rw[←e1,←er]at d
 have e:h*18446744073709551616+(l1*4294967296+l0)=r*4294967296+l0+y*(q1*4294967296):=by
  grind
 rw[e,Nat.add_mul_div_left _ _ hy,←e0,Nat.add_comm]
end
section
def sg(β:Bool):Int:=if β then -1 else 1
theorem sg_not(β:Bool):sg (!β) = - sg β:=by cases β <;> rfl
structure EI(a m lv lf tv tf:Nat)(β:Bool):Prop where
 lt:tv<lv
 sum:lv*tf+tv*lf=m
 le:lf≤m
 last:(m:Int)∣(a:Int)*lf-sg β*lv
 this:(m:Int)∣(a:Int)*tf+sg β*tv
 gcd:Nat.gcd lv tv=Nat.gcd m a
theorem EI.start(a m:Nat)(h:a<m):EI a m m 0 a 1 true:=by
 refine⟨h,by simp,by omega,?_,?_,rfl⟩
 ·simp
 ·refine⟨0,?_⟩;simp[sg]
  omega
theorem EI.step{a m lv lf tv tf:Nat}{β:Bool}(h:EI a m lv lf tv tf β)(h0:0<tv):EI a m tv tf (lv%tv) (lf+lv/tv*tf) (!β):=by
 have x:=Nat.div_add_mod lv tv;have A:=h.sum;have C:=h.lt;generalize hq:lv/tv=q at *;generalize hr:lv%tv=r at *
 have f:r<tv:=by rw[←hr];exact Nat.mod_lt _ h0
 refine⟨f,?_,?_,?_,?_,?_⟩
 ·rw[←A,←x]
  grind
 ·have D:1*tf≤lv*tf:=Nat.mul_le_mul_right _ (by omega)
  omega
 ·rw[sg_not];obtain⟨c,i⟩:=h.this;exact⟨c,by rw[←i];grind⟩
 ·rw[sg_not];obtain⟨c,i⟩:=h.this;obtain⟨d,j⟩:=h.last;refine⟨d+q*c,?_⟩
  have l:(lv:Int)=tv*q+r:=by
   have:((tv*q+r:Nat):Int)=(lv:Int):=by rw[x]
   rw[←this];simp
  rw[Int.mul_add,←j]
  have e:(m:Int)*(q*c)=q*(m*c):=by grind
  rw[e,←i,l]
  have B:((lf+q*tf:Nat):Int)=(lf:Int)+q*tf:=by simp
  rw[B]
  grind
 ·rw[←h.gcd,←hr,Nat.gcd_comm lv tv,Nat.gcd_rec tv lv,Nat.gcd_comm]
theorem EI.fits{a m lv lf tv tf:Nat}{β:Bool}(h:EI a m lv lf tv tf β)(h0:0<tv):lf+lv/tv*tf≤m:=by
 have d:=(h.step h0).sum;have f:1*(lf+lv/tv*tf)≤tv*(lf+lv/tv*tf):=Nat.mul_le_mul_right _ h0
 omega
theorem EI.val{a m lv lf tv tf:Nat}{β:Bool}(h:EI a m lv lf tv tf β)(h0:0<tf∨lv≤m):lv≤m:=by
 rcases h0 with h0|h0
 ·have d:=h.sum;have f:lv*1≤lv*tf:=Nat.mul_le_mul_left _ h0
  omega
 ·exact h0
theorem inv_pos(x m:Nat)(c:Int)(hm:1<m)(h:(x:Int)-1=m*c):∃k:Nat,x=1+m*k:=by
 have d:0≤c:=by
  by_cases d:0≤c
  ·exact d
  ·exfalso
   have f:(m:Int)*c≤m*(-1):=Int.mul_le_mul_of_nonneg_left (by omega) (by omega)
   omega
 obtain⟨k,rfl⟩:=Int.eq_ofNat_of_zero_le d;refine⟨k,?_⟩
 have:(m:Int)*k=((m*k:Nat):Int):=by simp
 rw[this]at h
 omega
end
section
def Prm(p:Nat):Prop:=2≤p∧∀d,d∣p→d=1∨d=p
end
end Go.Proofs.Ytffhepbppiocbaa
namespace Go.Proofs.Ytffhepbppiocbaa.EC
section
variable {p:Nat} [NeZero p]
/-- The point lies on the curve. -/
def OnC(A B x y:Fin p):Prop:=y*y=x*x*x+A*x+B
/-- l is the slope of the line through the two points, the tangent where they are one. -/
def Sl(A x1 y1 x2 y2 l:Fin p):Prop:=y2-y1=l*(x2-x1)∧l*(y1+y2)=x1*x1+x1*x2+x2*x2+A
/-- The two points are not opposite. -/
def Nop(x1 y1 x2 y2:Fin p):Prop:=¬(x1=x2∧y1+y2=0)
/-- The sum by the slope l. -/
def sx(l x1 x2:Fin p):Fin p:=l*l-x1-x2
def sy(l x1 y1 x:Fin p):Fin p:=l*(x1-x)-y1
theorem Sl.symm{A x1 y1 x2 y2 l:Fin p}(h:Sl A x1 y1 x2 y2 l):Sl A x2 y2 x1 y1 l:=by
 obtain⟨a,b⟩:=h
 refine⟨?_,?_⟩
 ·have:y1-y2 = -(y2-y1):=by grobner
  rw[this,a];grobner
 ·have:l*(y2+y1)=l*(y1+y2):=by grobner
  rw[this,b];grobner
/-- The sum of two points, as the documents have it (i: inverses). -/
def pl(i:Fin p→Fin p)(A:Fin p):Option (Fin p×Fin p)→Option (Fin p×Fin p)→Option (Fin p×Fin p)
 | none,q=>q
 | some P,none=>some P
 | some (x1,y1),some (x2,y2)=>
  if x1=x2 then
   if y1≠y2∨y1=0 then none
   else some (sx ((x1*x1+(x1*x1+x1*x1)+A)*i (y1+y1)) x1 x2,sy ((x1*x1+(x1*x1+x1*x1)+A)*i (y1+y1)) x1 y1 (sx ((x1*x1+(x1*x1+x1*x1)+A)*i (y1+y1)) x1 x2))
  else some (sx ((y2-y1)*i (x2-x1)) x1 x2,sy ((y2-y1)*i (x2-x1)) x1 y1 (sx ((y2-y1)*i (x2-x1)) x1 x2))
/-- It lies on the curve. -/
def On(A B:Fin p):Option (Fin p×Fin p)→Prop
 | none=>True
 | some (x,y)=>OnC A B x y
/-- What is asked of a curve's numbers, and of the inverses. -/
structure Cur(i:Fin p→Fin p)(A B:Fin p):Prop where
 pr:Prm p
 two:(2:Fin p)≠0
 dis:4*(A*A*A)+27*(B*B)≠0
 inv:∀d,d≠0→i d*d=1
variable {i:Fin p→Fin p} {A B:Fin p}
theorem Nop.symm{x1 y1 x2 y2:Fin p}(h:Nop x1 y1 x2 y2):Nop x2 y2 x1 y1:=fun⟨h1,h2⟩=>h ⟨h1.symm,by rw[←h2];clear h2;grobner⟩
end
end Go.Proofs.Ytffhepbppiocbaa.EC