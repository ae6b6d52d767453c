import Derived.Deep.AppendSrc
import Derived.Test.YtffhepbppiocbaaXBRMod
import Derived.Test.YtffhepbppiocbaaXBCT
namespace Go.Proofs.Ytffhepbppiocbaa
open Go.RowKit Go.Proofs.Try
set_option maxRecDepth 100000
set_option maxHeartbeats 8000000
section
attribute [local go_sem ↓] uz1
attribute [local go_sem] uz2
section
attribute [local go_sem ↓] bsl_is
def appS(ty:TypeId)(xs:Array Value):Sem Value:=Builtin.append_ #[34,34] ty xs
theorem app_is(ty:TypeId)(xs:Array Value):Builtin.append_ #[34,34] ty xs=appS ty xs:=rfl
theorem subM_is(t c m:Nat)(ht:t<m)(hc:c<m):subM t c m<m∧∃k:Int,(subM t c m:Int)=t-c+k*m:=by
 unfold subM
 split
 ·exact⟨by omega,0,by omega⟩
 ·exact⟨by omega,1,by omega⟩
structure RI(a m r s t u:Nat):Prop where
 rm:r≤m
 sm:s≤m
 tm:t<m
 um:u<m
 d1:(m:Int)∣(a:Int)*t-r
 d2:(m:Int)∣(a:Int)*u-s
 g:Nat.gcd r s=Nat.gcd m a
theorem RI.start(a m:Nat)(h:1<m):RI a m m (a%m) 0 1:=by
 refine⟨Nat.le_refl _,Nat.le_of_lt (Nat.mod_lt _ (by omega)),by omega,h,⟨-1,by simp⟩,⟨((a/m:Nat):Int),?_⟩,?_⟩
 ·have d:=Nat.div_add_mod a m;obtain⟨q,f⟩:=exl (a/m);obtain⟨v,i⟩:=exl (a%m);rw[f,i]at d ⊢
  have j:(m:Int)*q+v=a:=by exact_mod_cast d
  rw[←j]
  grind
 ·rw[Nat.gcd_comm,←Nat.gcd_rec]
theorem RI.step{a m r s t u:Nat}(h:RI a m r s t u)(h0:0<s)(q v c x:Nat)(hq:r/s=q)(hv:r%s=v)(hc:q%m*u%m=c)(hx:subM t c m=x):RI a m s v u x∧v<s:=by
 have C:0<m:=by have:=h.tm;omega
 have f:v<s:=by rw[←hv];exact Nat.mod_lt _ h0
 have i:c<m:=by rw[←hc];exact Nat.mod_lt _ C
 obtain⟨l,k,A⟩:=subM_is t c m h.tm i;rw[hx]at l A
 refine⟨⟨h.sm,by have:=h.sm;omega,h.um,l,h.d2,?_,?_⟩,f⟩
 ·obtain⟨D,I⟩:=h.d1;obtain⟨G,J⟩:=h.d2;have B:=Nat.div_add_mod r s;rw[hq,hv]at B
  have K:(s:Int)*q+v=r:=by exact_mod_cast B
  rw[pow_mul]at hc;have j:=Nat.div_add_mod (q*u) m;rw[hc]at j;obtain⟨d,H⟩:∃d,q*u/m=d:=⟨_,rfl⟩;rw[H]at j
  have L:(m:Int)*d+c=q*u:=by exact_mod_cast j
  refine⟨D-q*G+a*d+a*k,?_⟩;rw[A]
  grind
 ·rw[←h.g,←hv,Nat.gcd_comm,←Nat.gcd_rec,Nat.gcd_comm]
theorem RI.last{a m r t u:Nat}(h:RI a m r 0 t u)(h1:1<m):r=Nat.gcd m a∧0<r∧(r=1→a*t%m=1):=by
 have d:=h.g;rw[Nat.gcd_zero_right]at d;have j:0<Nat.gcd m a:=Nat.gcd_pos_of_pos_left _ (by omega);refine⟨d,by omega,fun e=>?_⟩;obtain⟨c,f⟩:=h.d1;rw[e]at f;obtain⟨k,i⟩:=inv_pos (a*t) m c h1 (by rw[←f];simp);rw[i,Nat.add_mul_mod_self_left,Nat.mod_eq_of_lt h1]
attribute [local go_sem ↓] app_is
end
end
section
section
variable (p:Option Addr) (x n:Nat) (q:Option Addr) (y m:Nat) (f:Bool)
theorem ptA_size:(ptA p x n q y m f).size=3:=rfl
theorem ptA_one:(ptA p x n q y m f).all (·.oneCell')=true:=by simp[ptA,Value.oneCell']
theorem loadPt_is:LdI 49:=fun _=>rfl
theorem storePt_is:StI 49:=fun _ _=>rfl
theorem loadPt:LdS 49 3:=ldS
theorem storePt:StS 49 3 (ptA p x n q y m f):=stS (ptA_size p x n q y m f) (ptA_one p x n q y m f)
theorem zvPt_is:zeroValue 49=zvS 49:=rfl
theorem zvPt(w:World):(zvS 49).run prog w=.ok (.agg (ptA none 0 0 none 0 0 false)) w:=by kernel_rfl
theorem buildPt_is(p:Array (Nat×Value)):Instr.build 49 p=buildF 49 p:=rfl
end
abbrev uz8:=And.intro @loadPt_is<|And.intro @storePt_is<|And.intro @zvPt_is<|And.intro @buildPt_is<|And.intro @loadC_is<|And.intro @loadPn_is<|And.intro @loadCu_is<|And.intro @storePn_is<|And.intro @zvPn_is<|And.intro @buildPn_is<|And.intro @storeCu_is<|And.intro @zvCu_is @buildCu_is
abbrev uz9:=And.intro @loadPt<|And.intro @storePt<|And.intro @zvPt<|And.intro @ptA_size<|And.intro @crA_size<|And.intro @loadC<|And.intro @loadPn<|And.intro @loadPX<|And.intro @loadPY<|And.intro @pnt_size<|And.intro @pnt_X<|And.intro @pnt_Y<|And.intro @storePn<|And.intro @zvPn<|And.intro @buildPn2<|And.intro @storeCu<|And.intro @zvCu<|And.intro @cu_size @loadCu
end
section
def ex{p:Nat}:Option (Fin p×Fin p)→Nat
 | none=>0
 | some q=>q.1.val
section
variable {P:Nat} [NeZero P] {i:Fin P→Fin P} {A B:Fin P}
end
end
end Go.Proofs.Ytffhepbppiocbaa