import Derived.Test.YtffhepbppiocbabGreatXANumO
namespace Go.Proofs.YtffhepbppiocbabGreat.EC
section
variable {p:Nat} [NeZero p]
/-- The sum of two triples, by its products. -/
def pX(a b X1 Y1 Z1 X2 Y2 Z2:Fin p):Fin p:=(X1*Y2+X2*Y1)*(Y1*Y2-a*(X1*Z2+X2*Z1)-3*b*(Z1*Z2))-(Y1*Z2+Y2*Z1)*(a*(X1*X2)+3*b*(X1*Z2+X2*Z1)-a*a*(Z1*Z2))
def pY(a b X1 Y1 Z1 X2 Y2 Z2:Fin p):Fin p:=(3*(X1*X2)+a*(Z1*Z2))*(a*(X1*X2)+3*b*(X1*Z2+X2*Z1)-a*a*(Z1*Z2))+(Y1*Y2+a*(X1*Z2+X2*Z1)+3*b*(Z1*Z2))*(Y1*Y2-a*(X1*Z2+X2*Z1)-3*b*(Z1*Z2))
def pZ(a b X1 Y1 Z1 X2 Y2 Z2:Fin p):Fin p:=(Y1*Z2+Y2*Z1)*(Y1*Y2+a*(X1*Z2+X2*Z1)+3*b*(Z1*Z2))+(X1*Y2+X2*Y1)*(3*(X1*X2)+a*(Z1*Z2))
/-- The triple stands for the point. -/
def Std(X Y Z:Fin p):Option (Fin p×Fin p)→Prop
 | none=>X=0∧Y≠0∧Z=0
 | some (x,y)=>Z≠0∧X=x*Z∧Y=y*Z
theorem pX_hom(a b x1 y1 z1 x2 y2 z2:Fin p):pX a b (x1*z1) (y1*z1) z1 (x2*z2) (y2*z2) z2=z1*z1*(z2*z2)*pX a b x1 y1 1 x2 y2 1:=by unfold pX;grobner
theorem pY_hom(a b x1 y1 z1 x2 y2 z2:Fin p):pY a b (x1*z1) (y1*z1) z1 (x2*z2) (y2*z2) z2=z1*z1*(z2*z2)*pY a b x1 y1 1 x2 y2 1:=by unfold pY;grobner
theorem pZ_hom(a b x1 y1 z1 x2 y2 z2:Fin p):pZ a b (x1*z1) (y1*z1) z1 (x2*z2) (y2*z2) z2=z1*z1*(z2*z2)*pZ a b x1 y1 1 x2 y2 1:=by unfold pZ;grobner
variable {A B:Fin p}
/-- By the slope. -/
theorem p_slope{x1 y1 x2 y2 l:Fin p}(h1:OnC A B x1 y1)(hs:Sl A x1 y1 x2 y2 l):
 pX A B x1 y1 1 x2 y2 1=sx l x1 x2*pZ A B x1 y1 1 x2 y2 1∧pY A B x1 y1 1 x2 y2 1=sy l x1 y1 (sx l x1 x2)*pZ A B x1 y1 1 x2 y2 1:=by
 obtain⟨a,b⟩:=hs
 have d:y2=y1+l*(x2-x1):=by grobner
 subst d
 have f:A=l*(y1+(y1+l*(x2-x1)))-(x1*x1+x1*x2+x2*x2):=by rw[b];grobner
 have h:B=y1*y1-x1*x1*x1-A*x1:=by rw[h1];grobner
 subst h;subst f;unfold sx sy pX pY pZ
 grind
/-- Z of the sum, by the point that the two differ by. -/
theorem p_diff{x1 y1 x2 y2 j:Fin p}(h1:OnC A B x1 y1)(h2:OnC A B x2 y2)(hx:x2-x1≠0)(hp:Prm p)(hj:j*(x2-x1)=1):
 pZ A B x1 y1 1 x2 y2 1=(x2-x1)*(x2-x1)*(x2-x1)*sy ((-y2-y1)*j) x1 y1 (sx ((-y2-y1)*j) x1 x2):=by
 have d:(x2-x1)*(x2-x1)*(x2-x1)*sy ((-y2-y1)*j) x1 y1 (sx ((-y2-y1)*j) x1 x2)=(-y2-y1)*(x1+x1+x2)*((x2-x1)*(x2-x1))*(j*(x2-x1))-(-y2-y1)*(-y2-y1)*(-y2-y1)*(j*(x2-x1)*(j*(x2-x1))*(j*(x2-x1)))-y1*((x2-x1)*(x2-x1)*(x2-x1)):=by
  unfold sy sx
  grobner
 rw[d,hj];clear d hj j;unfold OnC at h1 h2
 have f:B=y1*y1-x1*x1*x1-A*x1:=by rw[h1];grobner
 subst f
 have i:(x2-x1)*(pZ A (y1*y1-x1*x1*x1-A*x1) x1 y1 1 x2 y2 1-((-y2-y1)*(x1+x1+x2)*((x2-x1)*(x2-x1))*1-(-y2-y1)*(-y2-y1)*(-y2-y1)*(1*1*1)-y1*((x2-x1)*(x2-x1)*(x2-x1))))=0:=by
  unfold pZ
  grobner
 rcases nzd hp _ _ i with h|h
 ·exact absurd h hx
 ·exact sub_zero_of h
variable {i:Fin p→Fin p}
theorem y_ne(hr:∀x,x*x*x+A*x+B≠0){x y:Fin p}(h:OnC A B x y):y≠0:=fun e=>hr x (by rw[←show y*y=_ from h,e];grobner)
theorem mul_ne(hp:Prm p){a b:Fin p}(ha:a≠0)(hb:b≠0):a*b≠0:=fun h=>by
 rcases nzd hp _ _ h with h|h
 ·exact ha h
 ·exact hb h
theorem eight_ne(C:Cur i A B){y:Fin p}(hy:y≠0):8*(y*y*y)≠0:=by
 have e:(8:Fin p)*(y*y*y)=2*y*(2*y)*(2*y):=by grobner
 have h:=mul_ne C.pr C.two hy;rw[e];exact mul_ne C.pr (mul_ne C.pr h h) h
/-- Z of the sum is not 0, where the points are not opposite. -/
theorem pZ_ne(C:Cur i A B)(hr:∀x,x*x*x+A*x+B≠0){x1 y1 x2 y2:Fin p}(h1:OnC A B x1 y1)(h2:OnC A B x2 y2)(hn:Nop x1 y1 x2 y2):pZ A B x1 y1 1 x2 y2 1≠0:=by
 by_cases hx:x1=x2
 ·subst hx
  have q:(y1-y2)*(y1+y2)=0:=by
   have e:(y1-y2)*(y1+y2)=y1*y1-y2*y2:=by grobner
   rw[e,h1,h2]
   grobner
  have D:y1=y2:=by
   rcases nzd C.pr _ _ q with h|h
   ·exact sub_zero_of h
   ·exact absurd ⟨rfl,h⟩ hn
  subst D
  have e:pZ A B x1 y1 1 x1 y1 1=8*(y1*y1*y1):=by
   have G:B=y1*y1-x1*x1*x1-A*x1:=by rw[show y1*y1=_ from h1];grobner
   subst G;unfold pZ
   grobner
  rw[e];exact eight_ne C (y_ne hr h1)
 ·have d:x2-x1≠0:=fun h=>hx (sub_zero_of h).symm;rw[p_diff h1 h2 d C.pr (C.inv _ d)]
  have f:OnC A B x2 (-y2):=by
   unfold OnC at h2 ⊢;rw[←h2]
   grobner
  have j:=pl_on C (P:=some (x1,y1)) (Q:=some (x2,-y2)) h1 f
  have e:pl i A (some (x1,y1)) (some (x2,-y2))=some (sx ((-y2-y1)*i (x2-x1)) x1 x2,sy ((-y2-y1)*i (x2-x1)) x1 y1 (sx ((-y2-y1)*i (x2-x1)) x1 x2)):=by simp[pl,hx]
  rw[e]at j;exact mul_ne C.pr (mul_ne C.pr (mul_ne C.pr d d) d) (y_ne hr j)
/-- The row of products gives a triple of the sum, whatever the two points are. -/
theorem std_add(C:Cur i A B)(hr:∀x,x*x*x+A*x+B≠0){P Q:Option (Fin p×Fin p)}(hP:On A B P)(hQ:On A B Q){X1 Y1 Z1 X2 Y2 Z2:Fin p}(s1:Std X1 Y1 Z1 P)(s2:Std X2 Y2 Z2 Q):
 Std (pX A B X1 Y1 Z1 X2 Y2 Z2) (pY A B X1 Y1 Z1 X2 Y2 Z2) (pZ A B X1 Y1 Z1 X2 Y2 Z2) (pl i A P Q):=by
 match P,Q,hP,hQ,s1,s2 with
 | none,none,_,_,⟨a1,a2,a3⟩,⟨b1,b2,b3⟩=>
  subst a1 a3 b1 b3
  refine⟨?_,?_,?_⟩
  ·unfold pX;grobner
  ·have e:pY A B 0 Y1 0 0 Y2 0=Y1*Y2*(Y1*Y2):=by unfold pY;grobner
   rw[e];exact mul_ne C.pr (mul_ne C.pr a2 b2) (mul_ne C.pr a2 b2)
  ·unfold pZ;grobner
 | none,some (x,y),_,hQ,⟨a1,a2,a3⟩,⟨b1,b2,b3⟩=>
  subst a1 a3 b2 b3;have d:=y_ne hr hQ
  refine⟨?_,?_,?_⟩
  ·have e:pZ A B 0 Y1 0 (x*Z2) (y*Z2) Z2=Y1*Y1*(y*(Z2*Z2)):=by unfold pZ;grobner
   rw[e];exact mul_ne C.pr (mul_ne C.pr a2 a2) (mul_ne C.pr d (mul_ne C.pr b1 b1))
  ·unfold pX pZ;grobner
  ·unfold pY pZ;grobner
 | some (x,y),none,hP,_,⟨a1,a2,a3⟩,⟨b1,b2,b3⟩=>
  subst a2 a3 b1 b3;have d:=y_ne hr hP
  refine⟨?_,?_,?_⟩
  ·have e:pZ A B (x*Z1) (y*Z1) Z1 0 Y2 0=Y2*Y2*(y*(Z1*Z1)):=by unfold pZ;grobner
   rw[e];exact mul_ne C.pr (mul_ne C.pr b2 b2) (mul_ne C.pr d (mul_ne C.pr a1 a1))
  ·unfold pX pZ;grobner
  ·unfold pY pZ;grobner
 | some (x1,y1),some (x2,y2),hP,hQ,⟨a1,a2,a3⟩,⟨b1,b2,b3⟩=>
  subst a2 a3 b2 b3;rw[pX_hom,pY_hom,pZ_hom];have G:=mul_ne C.pr (mul_ne C.pr a1 a1) (mul_ne C.pr b1 b1)
  by_cases hn:Nop x1 y1 x2 y2
  ·obtain⟨l,j,e⟩:=pl_ex C hP hQ hn;rw[e];obtain⟨I,q⟩:=p_slope hP j
   refine⟨mul_ne C.pr G (pZ_ne C hr hP hQ hn),?_,?_⟩
   ·rw[I];generalize sx l x1 x2=u
    grobner
   ·rw[q];generalize sy l x1 y1 (sx l x1 x2)=u
    grobner
  ·obtain⟨J,d⟩:=Classical.byContradiction fun h=>hn h;subst J;rw[pl_op C d];have q:=neg_of d;subst q;have f:=y_ne hr hP;have K:y1+y1≠0:=fun h=>f (C.dbl h);have H:=pl_on C hP hP;obtain⟨l,j,e⟩:=pl_ex C hP hP (fun h=>K h.2);rw[e]at H;have D:=y_ne hr H
   refine⟨?_,?_,?_⟩
   ·have e:pX A B x1 y1 1 x1 (-y1) 1=0:=by unfold pX;grobner
    rw[e];grobner
   ·refine mul_ne C.pr G ?_
    have e:pY A B x1 y1 1 x1 (-y1) 1=8*(y1*y1*y1)*sy l x1 y1 (sx l x1 x1):=by
     obtain⟨-,b⟩:=j
     have L:A=l*(y1+y1)-(x1*x1+x1*x1+x1*x1):=by rw[b];grobner
     have S:B=y1*y1-x1*x1*x1-A*x1:=by rw[hP];grobner
     subst S;subst L;unfold pY sy sx
     grobner
    rw[e];exact mul_ne C.pr (eight_ne C f) D
   ·have e:pZ A B x1 y1 1 x1 (-y1) 1=0:=by unfold pZ;grobner
    rw[e];grobner
end
end Go.Proofs.YtffhepbppiocbabGreat.EC