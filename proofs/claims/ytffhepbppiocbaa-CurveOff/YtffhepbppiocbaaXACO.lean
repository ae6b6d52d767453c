import Derived.Test.YtffhepbppiocbaaXAPC
import Derived.Test.YtffhepbppiocbaaXAIX
namespace Go.Proofs.Ytffhepbppiocbaa
open Go.RowKit
set_option maxRecDepth 100000
set_option maxHeartbeats 8000000
section
theorem sq_pm{m s t:Nat}(hp:Prm m)(hs:s<m)(ht:t<m)(h:s*s%m=t*t%m):s=t∨s+t=m:=by
 have f:∀u v:Nat,v≤u→u<m→v<m→u*u%m=v*v%m→u=v∨u+v=m:=by
  intro u v i A B e
  have j:m∣(u-v)*(u+v):=by
   obtain⟨w,rfl⟩:∃w,u=v+w:=⟨u-v,by omega⟩
   have x:(v+w-v)*(v+w+v)=(v+w)*(v+w)-v*v:=by
    rw[Nat.add_sub_cancel_left]
    have:(v+w)*(v+w)=w*(v+w+v)+v*v:=by grind
    omega
   rw[x];exact Nat.dvd_of_mod_eq_zero (Nat.sub_mod_eq_zero_of_mod_eq e)
  rcases hp.dvd_mul j with d|d
  ·left
   rcases Nat.eq_zero_or_pos (u-v) with z|z
   ·omega
   ·have:=Nat.le_of_dvd z d;omega
  ·rcases Nat.eq_zero_or_pos (u+v) with z|z
   ·left;omega
   ·right
    obtain⟨q,C⟩:=d
    have:q=1:=by
     rcases Nat.lt_or_ge q 1 with a|a
     ·have:q=0:=by omega
      subst this;omega
     ·rcases Nat.lt_or_ge q 2 with b|b
      ·omega
      ·have:=Nat.mul_le_mul_left m b;omega
    subst this;omega
 rcases Nat.le_total t s with l|l
 ·exact f s t l hs ht h
 ·rcases f t s l ht hs h.symm with e|e
  ·left;exact e.symm
  ·right;omega
end
section
def flp(a i:Nat):Nat:=a^^^2^i
theorem flp_ne(a i:Nat):flp a i≠a:=by
 intro h;have:=congrArg (fun x=>x.testBit i) h;simp[flp,Nat.testBit_xor]at this
theorem flp_pw(n a i:Nat)(ha:a<pw n)(hi:i<64*n):flp a i<pw n:=
 Nat.xor_lt_two_pow ha (Nat.pow_lt_pow_right (by decide) hi)
theorem flp_lt(a i:Nat)(ha:a<M)(hi:i<576):flp a i<M:=flp_pw 9 a i ha hi
theorem wd_flp_same(a i:Nat):wd (flp a i) (i/64)=wd a (i/64)^^^2^(i%64):=by
 unfold wd pw flp;rw[show (18446744073709551616:Nat)=2^64 from rfl]
 apply Nat.eq_of_testBit_eq
 intro j;rw[Nat.testBit_xor,Nat.testBit_mod_two_pow,Nat.testBit_mod_two_pow,Nat.testBit_div_two_pow,Nat.testBit_div_two_pow,Nat.testBit_xor,Nat.testBit_two_pow,Nat.testBit_two_pow]
 by_cases hj:j<64
 ·have e:(i=j+64*(i/64))↔(i%64=j):=by omega
  by_cases h:i%64=j
  ·have:=e.2 h;simp[hj,h,←this]
  ·have:¬i=j+64*(i/64):=fun x=>h (e.1 x);simp[hj,h,this]
 ·have:¬i%64=j:=by omega
  simp[hj,this]
theorem wd_flp_other(a i k:Nat)(h:k≠i/64):wd (flp a i) k=wd a k:=by
 unfold wd pw flp;rw[show (18446744073709551616:Nat)=2^64 from rfl]
 apply Nat.eq_of_testBit_eq
 intro j;rw[Nat.testBit_mod_two_pow,Nat.testBit_mod_two_pow,Nat.testBit_div_two_pow,Nat.testBit_div_two_pow,Nat.testBit_xor,Nat.testBit_two_pow]
 by_cases hj:j<64
 ·have:¬i=j+64*k:=by omega
  simp[this]
 ·simp[hj]
theorem nw_flp(a i:Nat)(hi:i<576):(nw 9 a).setIfInBounds (i/64) (.int .u64 ((wd a (i/64)^^^2^(i%64):Nat):Int))=nw 9 (flp a i):=by
 apply Array.ext_getElem?
 intro j;rw[Array.getElem?_setIfInBounds]
 by_cases hj:j<9
 ·rw[nw_get 9 (flp a i) j hj]
  by_cases h:i/64=j
  ·subst h;rw[if_pos rfl,if_pos (by rw[nw_size];exact hj),wd_flp_same]
  ·rw[if_neg h,nw_get 9 a j hj,wd_flp_other a i j (fun e=>h e.symm)]
 ·have:¬i/64=j:=by omega
  rw[if_neg this,Array.getElem?_eq_none (by rw[nw_size];omega),Array.getElem?_eq_none (by rw[nw_size];omega)]
theorem pnt_flpX(x y i:Nat)(f:Bool)(hi:i<576):(pnt x y f).setIfInBounds (i/64) (.int .u64 ((wd x (i/64)^^^2^(i%64):Nat):Int))=pnt (flp x i) y f:=by
 have d:i/64<9:=by omega
 unfold pnt;rw[←nw_flp x i hi];rw[Array.setIfInBounds_append_left (by simp[nw_size];omega),Array.setIfInBounds_append_left (by simp[nw_size];omega)]
theorem pnt_flpY(x y i:Nat)(f:Bool)(hi:i<576):(pnt x y f).setIfInBounds (9+i/64) (.int .u64 ((wd y (i/64)^^^2^(i%64):Nat):Int))=pnt x (flp y i) f:=by
 have d:i/64<9:=by omega
 unfold pnt;rw[←nw_flp y i hi];rw[Array.setIfInBounds_append_left (by simp[nw_size];omega),Array.setIfInBounds_append_right (by simp[nw_size])];simp[nw_size]
theorem yN_pos(i:Nat)(h1:1≤i)(h2:i≤15):0<yN i:=by
 obtain rfl|rfl|rfl|rfl|rfl|rfl|rfl|rfl|rfl|rfl|rfl|rfl|rfl|rfl|rfl:i=1∨i=2∨i=3∨i=4∨i=5∨i=6∨i=7∨i=8∨i=9∨i=10∨i=11∨i=12∨i=13∨i=14∨i=15:=by omega
 all_goals decide +kernel
theorem onB_other(k:Nat)(h1:1≤k)(h2:k≤15)(y:Nat)(hy:y≠yN k):onB k (xN k) y false=decide (yN k+y=pN k):=by
 have f:=gN_on k h1 h2;have l:=yN_pos k h1 h2;have h:=prm_pN k h1 h2;simp only[onB,Bool.false_eq_true,if_false,Bool.and_eq_true,decide_eq_true_eq]at f ⊢;obtain⟨i,j,d⟩:=f;rw[Bool.eq_iff_iff];simp only[Bool.and_eq_true,decide_eq_true_eq]
 constructor
 ·rintro⟨-,q,x⟩
  rcases sq_pm h q j (x.trans d.symm) with e|e
  ·exact absurd e hy
  ·omega
 ·intro e;refine⟨i,by omega,?_⟩;rw[←d];clear i j d l h hy;generalize pN k=p at e ⊢;generalize yN k=z at e ⊢
  have A:y*y+p*z=z*z+p*y:=by
   rw[←e,Nat.add_mul,Nat.add_mul,Nat.mul_comm z y];omega
  have B:=congrArg (· % p) A
  simpa [Nat.add_mul_mod_self_left]using B
theorem szN_bd(k:Nat)(h1:1≤k)(h2:k≤15):1≤szN k∧szN k≤66:=by
 obtain rfl|rfl|rfl|rfl|rfl|rfl|rfl|rfl|rfl|rfl|rfl|rfl|rfl|rfl|rfl:k=1∨k=2∨k=3∨k=4∨k=5∨k=6∨k=7∨k=8∨k=9∨k=10∨k=11∨k=12∨k=13∨k=14∨k=15:=by omega
 all_goals decide +kernel
theorem onB_inf(k:Nat)(h1:1≤k)(h2:k≤15):onB k (xN k) (yN k) true=false:=by
 have d:=yN_pos k h1 h2
 have:¬yN k=0:=by omega
 simp[onB,this]
end
end Go.Proofs.Ytffhepbppiocbaa