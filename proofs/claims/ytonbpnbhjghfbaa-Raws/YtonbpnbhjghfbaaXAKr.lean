import Derived.Test.YtonbpnbhjghfbaaXADig
import Derived.Test.YtonbpnbhjghfbaaXAKu
namespace Go.Proofs.Ytonbpnbhjghfbaa
open Go.RowKit
set_option maxRecDepth 100000
set_option maxHeartbeats 8000000
section
theorem dset_eq(V p x:Nat):dset V p x+dg V p*pq p=V+x*pq p:=by
 grind [dparts,dset]
theorem sub_step32(V0 V D t o i carry bor y low carry' bor':Nat)(h:V+t*(D%pq i)*pq o=V0+(carry+bor)*pq (o+i))(hl:low+carry'*4294967296=t*dg D i+carry)(hy:y+low+bor=dg V (o+i)+bor'*4294967296):
 dset V (o+i) y+t*(D%pq (i+1))*pq o=V0+(carry'+bor')*pq (o+(i+1)):=by
 grind [dset_eq,dmod_succ,pq,dg,dset]
theorem sub_last32(V0 V E t o k carry bor y bor':Nat)(h:V+t*E*pq o=V0+(carry+bor)*pq (o+k))(hy:y+carry+bor=dg V (o+k)+bor'*4294967296):
 dset V (o+k) y+t*E*pq o=V0+bor'*pq (o+(k+1)):=by
 grind [dset_eq,pq,dg,dset]
theorem back_step32(V0 V D o i c y c':Nat)(h:V+c*pq (o+i)=V0+(D%pq i)*pq o)(hy:y+c'*4294967296=dg V (o+i)+dg D i+c):
 dset V (o+i) y+c'*pq (o+(i+1))=V0+(D%pq (i+1))*pq o:=by
 have j:=dset_eq V (o+i) y;rw[dmod_succ,show o+(i+1)=o+i+1 from rfl,pq_succ];have f:=pq_add o i;generalize pq (o+i)=P at *;generalize D%pq i=E at *;generalize pq o=Q at *;generalize pq i=R at *;generalize dg D i=d at *;generalize dg V (o+i)=x at *;generalize dset V (o+i) y=Z at *;subst f
 grind
theorem back_last32(V0 V E o k c y c':Nat)(h:V+c*pq (o+k)=V0+E*pq o)(hy:y+c'*4294967296=dg V (o+k)+c):
 dset V (o+k) y+c'*pq (o+(k+1))=V0+E*pq o:=by
 have d:=dset_eq V (o+k) y;rw[show o+(k+1)=o+k+1 from rfl,pq_succ];generalize pq (o+k)=P at *;generalize pq o=Q at *;generalize dg V (o+k)=x at *;generalize dset V (o+k) y=Z at *
 grind
theorem ddiv_step2(a j:Nat):a/pq j=a/pq (j+1)*4294967296+dg a j:=by
 unfold dg;rw[pq_succ,←Nat.div_div_eq_div_mul]
 omega
theorem top_one32(V j:Nat)(h:V<pq (j+1)):V/pq j=dg V j:=by
 rw[ddiv_step2 V j,Nat.div_eq_of_lt h,Nat.zero_mul,Nat.zero_add]
theorem top_two32(V j:Nat)(h:V<pq (j+2)):V/pq j=dg V (j+1)*4294967296+dg V j:=by
 rw[ddiv_step2 V j,top_one32 V (j+1) h]
theorem guess_full32(V D o:Nat)(hV:V<D*pq (o+1)):V/(D*pq o)<4294967296:=by
 rw[pq_succ]at hV
 by_cases h0:0<D*pq o
 ·rw[Nat.div_lt_iff_lt_mul h0]
  have e:4294967296*(D*pq o)=D*(pq o*4294967296):=by grind
  omega
 ·rw[show D*pq o=0 from by omega,Nat.div_zero]
  decide
theorem three(U n j:Nat)(hU:U<pq (j+n+3)):U/pq (j+n)=(dg U (j+n+2)*4294967296+dg U (j+n+1))*4294967296+dg U (j+n):=by
 rw[ddiv_step2 U (j+n),top_two32 U (j+n+1) hU]
theorem two_up(V n:Nat)(hV:V<pq (n+2)):V/pq n=dg V (n+1)*4294967296+dg V n:=top_two32 V n hV
theorem step_pre(U V n j:Nat)(hV:V<pq (n+2))(hv:0<dg V (n+1))(hU:U<V*pq (j+1)):
 U<pq (j+n+3)∧U/(V*pq j)<4294967296∧U/(V*pq j)*dg V (n+1)≤dg U (j+n+2)*4294967296+dg U (j+n+1) ∧
 U/(V*pq j)*(dg V (n+1)*4294967296+dg V n)≤(dg U (j+n+2)*4294967296+dg U (j+n+1))*4294967296+dg U (j+n) ∧
 dg U (j+n+2)*4294967296+dg U (j+n+1)≤dg V (n+1)*4294967296+4294967295:=by
 have d:U<pq (j+n+3):=by
  have e:pq (j+n+3)=pq (n+2)*pq (j+1):=by rw[←pq_add];congr 1;omega
  rw[e];exact Nat.lt_trans hU (Nat.mul_lt_mul_of_pos_right hV (pq_pos _))
 have v:=three U n j d;have f:=two_up V n hV;have h:U/pq (j+n+1)=dg U (j+n+2)*4294967296+dg U (j+n+1):=top_two32 U (j+n+1) d;have i:=guess_ge U V (pq (n+1)) (pq j) (dg V (n+1)) (pq_pos _) (pq_pos _) hv (by rw[←top_one32 V (n+1) hV];exact Nat.div_mul_le_self _ _);rw[←pq_add,show n+1+j=j+n+1 by omega,h,Nat.le_div_iff_mul_le hv]at i
 have l:0<dg V (n+1)*4294967296+dg V n:=by omega
 have q:=guess_ge U V (pq n) (pq j) (dg V (n+1)*4294967296+dg V n) (pq_pos _) (pq_pos _) l (by rw[←f];exact Nat.div_mul_le_self _ _);rw[←pq_add,show n+j=j+n by omega,v,Nat.le_div_iff_mul_le l]at q;refine⟨d,guess_full32 U V j hU,i,q,?_⟩
 -- the row is below V B^(j+1)
 have x:U/pq (j+n+1)<V/pq n+1:=by
  rw[Nat.div_lt_iff_lt_mul (pq_pos _)]
  have A:V<(V/pq n+1)*pq n:=by
   have:=Nat.lt_div_mul_add (a:=V) (pq_pos n);rw[Nat.add_mul]
   omega
  have e:(V/pq n+1)*pq (j+n+1)=(V/pq n+1)*pq n*pq (j+1):=by
   rw[Nat.mul_assoc,←pq_add]
   congr 2
   omega
  rw[e];exact Nat.lt_of_lt_of_le hU (Nat.mul_le_mul_right _ (Nat.le_of_lt A))
 rw[h,f]at x;have:=dg_lt V n
 omega
theorem step_up(U V n j d:Nat)(hV:V<pq (n+2))(hv:0<dg V (n+1))(hUR:U<pq (j+n+3))(hd:d<4294967296)(h:d*(dg V (n+1)*4294967296+dg V n)≤(dg U (j+n+2)*4294967296+dg U (j+n+1))*4294967296+dg U (j+n)):(d-1)*(V*pq j)≤U:=by
 rw[←three U n j hUR,←two_up V n hV]at h
 have f:V<(V/pq n+1)*pq n:=by
  have:=Nat.lt_div_mul_add (a:=V) (pq_pos n);rw[Nat.add_mul]
  omega
 have v:pq (n+1)≤V:=by
  have i:=Nat.div_mul_le_self V (pq (n+1));rw[top_one32 V (n+1) hV]at i;have x:1*pq (n+1)≤dg V (n+1)*pq (n+1):=Nat.mul_le_mul_right _ hv
  omega
 have A:=Nat.div_mul_le_self U (pq (j+n))
 cases d with
 | zero=>simp
 | succ e=>
  rw[Nat.add_sub_cancel];generalize U/pq (j+n)=Y at *;generalize V/pq n=W at *;have B:(e+1)*W*pq n≤Y*pq n:=Nat.mul_le_mul_right _ h;have C:(e+1)*V≤(e+1)*((W+1)*pq n):=Nat.mul_le_mul_left _ (Nat.le_of_lt f)
  have D:(e+1)*((W+1)*pq n)=(e+1)*W*pq n+(e+1)*pq n:=by grind
  have G:(e+1)*pq n≤4294967296*pq n:=Nat.mul_le_mul_right _ (by omega)
  have H:pq (n+1)=4294967296*pq n:=by rw[pq_succ,Nat.mul_comm]
  have I:(e+1)*V=e*V+V:=by grind
  have l:e*V≤Y*pq n:=by omega
  have q:e*V*pq j≤Y*pq n*pq j:=Nat.mul_le_mul_right _ l
  have J:Y*pq n*pq j=Y*pq (j+n):=by rw[Nat.mul_assoc,←pq_add,Nat.add_comm n j]
  rw[←Nat.mul_assoc]
  omega
theorem step_back(U T R d Z Y c:Nat)(hd:0<d)(hZ:Z<R)(hY:Y<R)(h:Z+d*T=U+R)(hb:Y+c*R=Z+T)(hc:c≤1)(hup:(d-1)*T≤U):Y+(d-1)*T=U∧Y<T:=by
 have f:=take_back U T R d Z Y c hd h hb
 rcases(show c=0∨c=1 by omega) with rfl|rfl
 ·rw[Nat.zero_mul]at f
  omega
 ·rw[Nat.one_mul]at f hb;exact⟨by omega,by omega⟩
end
end Go.Proofs.Ytonbpnbhjghfbaa