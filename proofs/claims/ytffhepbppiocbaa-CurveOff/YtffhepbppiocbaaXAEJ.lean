import Derived.Test.YtffhepbppiocbaaXANumO
namespace Go.Proofs.Ytffhepbppiocbaa.EC
section
variable {p:Nat} [NeZero p]
theorem nzd(h:Prm p)(a b:Fin p)(e:a*b=0):a=0∨b=0:=by
 have f:(a*b).val=(0:Fin p).val:=by rw[e]
 rw[Fin.val_mul,Fin.val_zero]at f
 rcases h.dvd_mul (Nat.dvd_of_mod_eq_zero f) with d|d
 ·grind [Nat.eq_zero_of_dvd_of_lt]
 grind [Nat.eq_zero_of_dvd_of_lt]
/-- The point lies on the curve. -/
def OnC(A B x y:Fin p):Prop:=y*y=x*x*x+A*x+B
/-- l is the slope of the line through the two points, the tangent where they are one. -/
def Sl(A x1 y1 x2 y2 l:Fin p):Prop:=y2-y1=l*(x2-x1)∧l*(y1+y2)=x1*x1+x1*x2+x2*x2+A
/-- The two points are not opposite. -/
def Nop(x1 y1 x2 y2:Fin p):Prop:=¬(x1=x2∧y1+y2=0)
theorem mvl{a b c:Fin p}(h:a-b=c):b=a-c:=by grobner
theorem mvr{a b c:Fin p}(h:a-b=c):a=b+c:=by grobner
theorem mva{a b c:Fin p}(h:a=b+c):c=a-b:=by grobner
theorem sub_zero_of{a b:Fin p}(h:a-b=0):a=b:=by grobner
theorem sl_one(hp:Prm p){A x1 y1 x2 y2 l m:Fin p}(hn:Nop x1 y1 x2 y2)(h1:Sl A x1 y1 x2 y2 l)(h2:Sl A x1 y1 x2 y2 m):l=m:=by
 obtain⟨d,f⟩:=h1;obtain⟨i,j⟩:=h2
 have q:(l-m)*(x2-x1)=0:=by
  have:(l-m)*(x2-x1)=l*(x2-x1)-m*(x2-x1):=by grobner
  rw[this,←d,←i]
  grobner
 have x:(l-m)*(y1+y2)=0:=by
  have:(l-m)*(y1+y2)=l*(y1+y2)-m*(y1+y2):=by grobner
  rw[this,f,j]
  grobner
 rcases nzd hp _ _ q with h|h
 ·exact sub_zero_of h
 ·rcases nzd hp _ _ x with h'|h'
  ·exact sub_zero_of h'
  ·exact absurd ⟨(sub_zero_of h).symm,h'⟩ hn
/-- The sum by the slope l. -/
def sx(l x1 x2:Fin p):Fin p:=l*l-x1-x2
def sy(l x1 y1 x:Fin p):Fin p:=l*(x1-x)-y1
theorem on_slope{A B x1 y1 x2 y2 l:Fin p}(h1:OnC A B x1 y1)(hs:Sl A x1 y1 x2 y2 l):OnC A B (sx l x1 x2) (sy l x1 y1 (sx l x1 x2)):=by
 obtain⟨a,b⟩:=hs;unfold OnC at *
 have d:y2=y1+l*(x2-x1):=by grobner
 subst d
 have f:A=l*(y1+(y1+l*(x2-x1)))-(x1*x1+x1*x2+x2*x2):=by rw[b];grobner
 have h:B=y1*y1-x1*x1*x1-A*x1:=by rw[h1];grobner
 subst h;subst f;unfold sx sy
 grobner
theorem Sl.symm{A x1 y1 x2 y2 l:Fin p}(h:Sl A x1 y1 x2 y2 l):Sl A x2 y2 x1 y1 l:=by
 obtain⟨a,b⟩:=h
 refine⟨?_,?_⟩
 ·have:y1-y2 = -(y2-y1):=by grobner
  rw[this,a];grobner
 ·have:l*(y2+y1)=l*(y1+y2):=by grobner
  rw[this,b];grobner
theorem sy_symm{A x1 y1 x2 y2 l:Fin p}(h:Sl A x1 y1 x2 y2 l)(x:Fin p):sy l x1 y1 x=sy l x2 y2 x:=by
 obtain⟨a,b⟩:=h
 have d:y2=y1+l*(x2-x1):=by grobner
 subst d;unfold sy
 grobner
/-- The line back: the opposite of the first and the sum have the opposite slope. -/
theorem sl_back{A x1 y1 x2 y2 l:Fin p}(h:Sl A x1 y1 x2 y2 l):Sl A x1 (-y1) (sx l x1 x2) (sy l x1 y1 (sx l x1 x2)) (-l):=by
 obtain⟨a,b⟩:=h
 have d:y2=y1+l*(x2-x1):=by grobner
 subst d
 have f:A=l*(y1+(y1+l*(x2-x1)))-(x1*x1+x1*x2+x2*x2):=by rw[b];grobner
 subst f;unfold Sl sx sy;refine⟨?_,?_⟩ <;> grobner
/-- The two slopes of three points: what the slope of the first and the sum of the others is. -/
theorem sl_three(hp:Prm p){A x1 y1 x2 y2 x3 y3 l m o:Fin p}(h1:Sl A x1 y1 x2 y2 l)(h2:Sl A x2 y2 x3 y3 m)(hn:Nop x1 y1 (sx m x2 x3) (sy m x2 y2 (sx m x2 x3)))(ho:Sl A x1 y1 (sx m x2 x3) (sy m x2 y2 (sx m x2 x3)) o):
 o*(l-m)+(l*m-x1-x2-(sx m x2 x3))=0:=by
 obtain⟨f,d⟩:=h1;obtain⟨i,j⟩:=h2;obtain⟨q,x⟩:=ho;have B:=mvl f;have C:=mvr i;subst C;subst B;have D:=mva j;subst D
 have G:(o*(l-m)+(l*m-x1-x2-(sx m x2 x3)))*(sx m x2 x3-x1)=0:=by
  have e:(o*(l-m)+(l*m-x1-x2-(sx m x2 x3)))*(sx m x2 x3-x1)=(l-m)*(o*(sx m x2 x3-x1)-(sy m x2 y2 (sx m x2 x3)-(y2-l*(x2-x1))))+(x1*x1+x1*x2+x2*x2+(m*(y2+(y2+m*(x3-x2)))-(x2*x2+x2*x3+x3*x3))-l*(y2-l*(x2-x1)+y2)):=by
   unfold sx sy
   grobner
  rw[e,q,d]
  grobner
 have H:(o*(l-m)+(l*m-x1-x2-(sx m x2 x3)))*(y2-l*(x2-x1)+sy m x2 y2 (sx m x2 x3))=0:=by
  have e:(o*(l-m)+(l*m-x1-x2-(sx m x2 x3)))*(y2-l*(x2-x1)+sy m x2 y2 (sx m x2 x3))=(l-m)*(o*(y2-l*(x2-x1)+sy m x2 y2 (sx m x2 x3))-(x1*x1+x1*sx m x2 x3+sx m x2 x3*sx m x2 x3+(m*(y2+(y2+m*(x3-x2)))-(x2*x2+x2*x3+x3*x3))))-m*(x1*x1+x1*x2+x2*x2+(m*(y2+(y2+m*(x3-x2)))-(x2*x2+x2*x3+x3*x3))-l*(y2-l*(x2-x1)+y2)):=by
   unfold sx sy
   grobner
  rw[e,x,d]
  grobner
 rcases nzd hp _ _ G with h|h
 ·exact h
 ·rcases nzd hp _ _ H with h'|h'
  ·exact h'
  ·exact absurd ⟨(sub_zero_of h).symm,h'⟩ hn
/-- The slope of the sum of the first two and the third. -/
theorem sl_other(hp:Prm p){A x1 y1 x2 y2 x3 y3 l m o:Fin p}(h1:Sl A x1 y1 x2 y2 l)(h2:Sl A x2 y2 x3 y3 m)(hlm:l≠m)(ho:o*(l-m)+(l*m-x1-x2-(sx m x2 x3))=0):
 Sl A (sx l x1 x2) (sy l x2 y2 (sx l x1 x2)) x3 y3 (o+m-l)∧sx (o+m-l) (sx l x1 x2) x3=sx o x1 (sx m x2 x3) ∧
  sy (o+m-l) x3 y3 (sx o x1 (sx m x2 x3))=sy o x1 y1 (sx o x1 (sx m x2 x3)):=by
 obtain⟨i,j⟩:=h1;obtain⟨q,x⟩:=h2;have B:=mvl i;have C:=mvr q;subst C;subst B;have D:=mva x;subst D
 have f:∀t:Fin p,(l-m)*t=0→t=0:=fun t G=>by
  rcases nzd hp _ _ G with h|h
  ·exact absurd (sub_zero_of h) hlm
  ·exact h
 have d:x1*x1+x1*x2+x2*x2+(m*(y2+(y2+m*(x3-x2)))-(x2*x2+x2*x3+x3*x3))-l*(y2-l*(x2-x1)+y2)=0:=by
  rw[j];clear i q j x ho f
  grobner
 clear i q j x
 refine⟨⟨?_,?_⟩,?_,?_⟩
 ·apply sub_zero_of
  apply f
  have e:(l-m)*(y2+m*(x3-x2)-sy l x2 y2 (sx l x1 x2)-(o+m-l)*(x3-sx l x1 x2)) = -(x3-sx l x1 x2)*(o*(l-m)+(l*m-x1-x2-(sx m x2 x3)))-(x1*x1+x1*x2+x2*x2+(m*(y2+(y2+m*(x3-x2)))-(x2*x2+x2*x3+x3*x3))-l*(y2-l*(x2-x1)+y2)):=by
   clear ho f d;unfold sx sy
   grobner
  rw[e,ho,d];clear e ho f d
  grobner
 ·apply sub_zero_of
  apply f
  have e:(l-m)*((o+m-l)*(sy l x2 y2 (sx l x1 x2)+(y2+m*(x3-x2)))-(sx l x1 x2*sx l x1 x2+sx l x1 x2*x3+x3*x3+(m*(y2+(y2+m*(x3-x2)))-(x2*x2+x2*x3+x3*x3))))=(sy l x2 y2 (sx l x1 x2)+(y2+m*(x3-x2)))*(o*(l-m)+(l*m-x1-x2-(sx m x2 x3)))+m*(x1*x1+x1*x2+x2*x2+(m*(y2+(y2+m*(x3-x2)))-(x2*x2+x2*x3+x3*x3))-l*(y2-l*(x2-x1)+y2)):=by
   unfold sx sy
   grobner
  rw[e,ho,d]
  grobner
 ·have e:sx (o+m-l) (sx l x1 x2) x3=sx o x1 (sx m x2 x3) + -2*(o*(l-m)+(l*m-x1-x2-(sx m x2 x3))):=by
   unfold sx
   grobner
  rw[e,ho]
  grobner
 ·apply sub_zero_of
  apply f
  have e:(l-m)*(sy (o+m-l) x3 (y2+m*(x3-x2)) (sx o x1 (sx m x2 x3))-sy o x1 (y2-l*(x2-x1)) (sx o x1 (sx m x2 x3)))=(x3-x1+(o*(l-m)-(l*m-x1-x2-(sx m x2 x3))))*(o*(l-m)+(l*m-x1-x2-(sx m x2 x3))):=by
   unfold sx sy
   grobner
  rw[e,ho]
  grobner
/-- The sum of two points, as the documents have it (i: inverses). -/
def pl(i:Fin p→Fin p)(A:Fin p):Option (Fin p×Fin p)→Option (Fin p×Fin p)→Option (Fin p×Fin p)
 | none,q=>q
 | some P,none=>some P
 | some (x1,y1),some (x2,y2)=>
  if x1=x2 then
   if y1≠y2∨y1=0 then none
   else some (sx ((x1*x1+(x1*x1+x1*x1)+A)*i (y1+y1)) x1 x2,sy ((x1*x1+(x1*x1+x1*x1)+A)*i (y1+y1)) x1 y1 (sx ((x1*x1+(x1*x1+x1*x1)+A)*i (y1+y1)) x1 x2))
  else some (sx ((y2-y1)*i (x2-x1)) x1 x2,sy ((y2-y1)*i (x2-x1)) x1 y1 (sx ((y2-y1)*i (x2-x1)) x1 x2))
/-- The opposite. -/
def ng:Option (Fin p×Fin p)→Option (Fin p×Fin p)
 | none=>none
 | some (x,y)=>some (x,-y)
/-- It lies on the curve. -/
def On(A B:Fin p):Option (Fin p×Fin p)→Prop
 | none=>True
 | some (x,y)=>OnC A B x y
/-- What is asked of a curve's numbers, and of the inverses. -/
structure Cur(i:Fin p→Fin p)(A B:Fin p):Prop where
 pr:Prm p
 two:(2:Fin p)≠0
 dis:4*(A*A*A)+27*(B*B)≠0
 inv:∀d,d≠0→i d*d=1
variable {i:Fin p→Fin p} {A B:Fin p}
theorem Cur.dbl(C:Cur i A B){y:Fin p}(h:y+y=0):y=0:=by
 have e:(2:Fin p)*y=y+y:=by grobner
 rw[h]at e
 rcases nzd C.pr _ _ e with h|h
 ·exact absurd h C.two
 ·exact h
theorem pl_op(C:Cur i A B){x y z:Fin p}(h:y+z=0):pl i A (some (x,y)) (some (x,z))=none:=by
 show (if x=x then if y≠z∨y=0 then none else _ else _)=none
 rw[if_pos rfl,if_pos ?_]
 by_cases e:y=z
 ·subst e;exact Or.inr (C.dbl h)
 ·exact Or.inl e
theorem pl_ex(C:Cur i A B){x1 y1 x2 y2:Fin p}(h1:OnC A B x1 y1)(h2:OnC A B x2 y2)(hn:Nop x1 y1 x2 y2):
 ∃l,Sl A x1 y1 x2 y2 l∧pl i A (some (x1,y1)) (some (x2,y2))=some (sx l x1 x2,sy l x1 y1 (sx l x1 x2)):=by
 by_cases e:x1=x2
 ·subst e
  have x:(y1-y2)*(y1+y2)=0:=by
   have e:(y1-y2)*(y1+y2)=y1*y1-y2*y2:=by grobner
   rw[e,h1,h2]
   grobner
  have D:y1=y2:=by
   rcases nzd C.pr _ _ x with h|h
   ·exact sub_zero_of h
   ·exact absurd ⟨rfl,h⟩ hn
  subst D;have j:y1+y1≠0:=fun h=>hn ⟨rfl,h⟩;have d:y1≠0:=fun h=>j (by rw[h];grobner)
  refine⟨(x1*x1+(x1*x1+x1*x1)+A)*i (y1+y1),⟨?_,?_⟩,?_⟩
  ·grobner
  ·have e:(x1*x1+(x1*x1+x1*x1)+A)*i (y1+y1)*(y1+y1)=(x1*x1+(x1*x1+x1*x1)+A)*(i (y1+y1)*(y1+y1)):=by grobner
   rw[e,C.inv _ j]
   grobner
  ·show (if x1=x1 then if y1≠y1∨y1=0 then none else _ else _)=_
   rw[if_pos rfl,if_neg]
   rintro (h|h)
   ·exact h rfl
   ·exact d h
 ·have f:x2-x1≠0:=fun h=>e (sub_zero_of h).symm
  refine⟨(y2-y1)*i (x2-x1),⟨?_,?_⟩,?_⟩
  ·have e:(y2-y1)*i (x2-x1)*(x2-x1)=(y2-y1)*(i (x2-x1)*(x2-x1)):=by grobner
   rw[e,C.inv _ f]
   grobner
  ·have q:(x2-x1)*((y2-y1)*i (x2-x1)*(y1+y2)-(x1*x1+x1*x2+x2*x2+A))=0:=by
    have e:(x2-x1)*((y2-y1)*i (x2-x1)*(y1+y2)-(x1*x1+x1*x2+x2*x2+A))=(i (x2-x1)*(x2-x1))*(y2*y2-y1*y1)-(x2-x1)*(x1*x1+x1*x2+x2*x2+A):=by
     grobner
    rw[e,C.inv _ f,h1,h2]
    grobner
   rcases nzd C.pr _ _ q with h|h
   ·exact absurd h f
   ·exact sub_zero_of h
  ·show (if x1=x2 then _ else _)=_
   rw[if_neg e]
theorem pl_is(C:Cur i A B){x1 y1 x2 y2 l:Fin p}(h1:OnC A B x1 y1)(h2:OnC A B x2 y2)(hn:Nop x1 y1 x2 y2)(hs:Sl A x1 y1 x2 y2 l):
 pl i A (some (x1,y1)) (some (x2,y2))=some (sx l x1 x2,sy l x1 y1 (sx l x1 x2)):=by
 obtain⟨m,d,e⟩:=pl_ex C h1 h2 hn;rw[sl_one C.pr hn hs d];exact e
theorem pl_on(C:Cur i A B){P Q:Option (Fin p×Fin p)}(h1:On A B P)(h2:On A B Q):On A B (pl i A P Q):=by
 match P,Q,h1,h2 with
 | none,_,_,h2=>exact h2
 | some (_,_),none,h1,_=>exact h1
 | some (x1,y1),some (x2,y2),h1,h2=>
  by_cases hn:x1=x2∧y1+y2=0
  ·obtain⟨rfl,hn⟩:=hn;rw[pl_op C hn]
   trivial
  ·obtain⟨l,d,e⟩:=pl_ex C h1 h2 hn;rw[e];exact on_slope h1 d
theorem Nop.symm{x1 y1 x2 y2:Fin p}(h:Nop x1 y1 x2 y2):Nop x2 y2 x1 y1:=fun⟨h1,h2⟩=>h ⟨h1.symm,by rw[←h2];clear h2;grobner⟩
theorem pl_comm(C:Cur i A B){P Q:Option (Fin p×Fin p)}(h1:On A B P)(h2:On A B Q):pl i A P Q=pl i A Q P:=by
 match P,Q,h1,h2 with
 | none,none,_,_=>rfl
 | none,some (_,_),_,_=>rfl
 | some (_,_),none,_,_=>rfl
 | some (x1,y1),some (x2,y2),h1,h2=>
  by_cases hn:x1=x2∧y1+y2=0
  ·obtain⟨rfl,hn⟩:=hn;rw[pl_op C hn,pl_op C (by rw[←hn];clear hn;grobner)]
  ·obtain⟨l,d,e⟩:=pl_ex C h1 h2 hn;rw[e,pl_is C h2 h1 (Nop.symm hn) d.symm]
   have f:sx l x2 x1=sx l x1 x2:=by unfold sx;grobner
   rw[f,sy_symm d]
theorem ng_ng(P:Option (Fin p×Fin p)):ng (ng P)=P:=by
 match P with
 | none=>rfl
 | some (x,y)=>
  show some (x,- -y)=_
  have e : - -y=y:=by grobner
  rw[e]
theorem ng_on{P:Option (Fin p×Fin p)}(h:On A B P):On A B (ng P):=by
 match P,h with
 | none,_=>trivial
 | some (x,y),h=>
  show -y * -y=_
  have e : -y * -y=y*y:=by grobner
  rw[e];exact h
theorem pl_ng(C:Cur i A B)(P:Option (Fin p×Fin p)):pl i A P (ng P)=none:=by
 match P with
 | none=>rfl
 | some (x,y)=>exact pl_op C (by grobner)
theorem ng_pl(C:Cur i A B){P Q:Option (Fin p×Fin p)}(h1:On A B P)(h2:On A B Q):ng (pl i A P Q)=pl i A (ng P) (ng Q):=by
 match P,Q,h1,h2 with
 | none,none,_,_=>rfl
 | none,some (_,_),_,_=>rfl
 | some (_,_),none,_,_=>rfl
 | some (x1,y1),some (x2,y2),h1,h2=>
  by_cases hn:x1=x2∧y1+y2=0
  ·obtain⟨rfl,hn⟩:=hn;rw[pl_op C hn]
   show none=pl i A (some (x1,-y1)) (some (x1,-y2))
   rw[pl_op C]
   have e : -y1 + -y2 = -(y1+y2):=by grobner
   rw[e,hn]
   grobner
  ·obtain⟨l,d,e⟩:=pl_ex C h1 h2 hn;rw[e]
   have f:Sl A x1 (-y1) x2 (-y2) (-l):=by
    refine⟨?_,?_⟩
    ·have e : -y2 - -y1 = -(y2-y1):=by grobner
     rw[e,d.1]
     grobner
    ·have e : -l*(-y1 + -y2)=l*(y1+y2):=by grobner
     rw[e];exact d.2
   show _=pl i A (some (x1,-y1)) (some (x2,-y2))
   rw[pl_is C (ng_on h1) (ng_on h2) ?_ f]
   ·show some (sx l x1 x2,-(sy l x1 y1 (sx l x1 x2)))=some (sx (-l) x1 x2,sy (-l) x1 (-y1) (sx (-l) x1 x2))
    have h:sx (-l) x1 x2=sx l x1 x2:=by unfold sx;grobner
    rw[h];generalize sx l x1 x2=t
    have j : -(sy l x1 y1 t)=sy (-l) x1 (-y1) t:=by unfold sy;grobner
    rw[j]
   ·rintro⟨q,x⟩;refine hn ⟨q,?_⟩
    have e:y1+y2 = -(-y1 + -y2):=by grobner
    rw[e,x]
    grobner
/-- What was added is taken away again. -/
theorem pl_back(C:Cur i A B){P Q:Option (Fin p×Fin p)}(h1:On A B P)(h2:On A B Q):pl i A (ng P) (pl i A P Q)=Q:=by
 match P,Q,h1,h2 with
 | none,_,_,_=>rfl
 | some (x,y),none,_,_=>exact pl_op C (show -y+y=0 by grobner)
 | some (x1,y1),some (x2,y2),h1,h2=>
  by_cases hn:x1=x2∧y1+y2=0
  ·obtain⟨rfl,hn⟩:=hn;rw[pl_op C hn]
   show some (x1,-y1)=some (x1,y2)
   have e:y2=y1+y2-y1:=by grobner
   rw[e,hn]
   have e:0-y1 = -y1:=by clear e hn h1 h2;grobner
   rw[e]
  ·obtain⟨l,f,e⟩:=pl_ex C h1 h2 hn;rw[e];have j:=sl_back f;have d:=on_slope h1 f
   have h:Nop x1 (-y1) (sx l x1 x2) (sy l x1 y1 (sx l x1 x2)):=by
    rintro⟨q,D⟩;rw[←q]at D
    have H:y1=0:=by
     apply C.dbl
     have e:y1+y1 = -(-y1+sy l x1 y1 x1):=by unfold sy;grobner
     rw[e,D];clear e q D f h1 h2 j d
     grobner
    subst H
    have I:l*l-(x1+x1+x2)=0:=by
     have e:l*l-(x1+x1+x2)=sx l x1 x2-x1:=by unfold sx;grobner
     rw[e,←q];clear e q D f h1 h2 j d
     grobner
    have J:x1*x1+x1*x1+x1*x1+A=0:=by
     have e:x1*x1+x1*x1+x1*x1+A=(x1*x1+x1*x2+x2*x2+A)-l*(0+y2)+l*((y2-0)-l*(x2-x1))+(x2-x1)*(l*l-(x1+x1+x2)):=by
      grobner
     rw[e,I,f.2,f.1]
     grobner
    apply C.dis
    have G:(0:Fin p)*0-(x1*x1*x1+A*x1+B)=0:=by
     rw[show (0:Fin p)*0=x1*x1*x1+A*x1+B from h1]
     grobner
    have e:4*(A*A*A)+27*(B*B)=(27*(x1*x1)*((x1*x1+x1*x1+x1*x1+A)-4*(x1*x1))+4*((x1*x1+x1*x1+x1*x1+A)*(x1*x1+x1*x1+x1*x1+A)-9*((x1*x1+x1*x1+x1*x1+A)*(x1*x1))+27*((x1*x1)*(x1*x1))))*(x1*x1+x1*x1+x1*x1+A)+(54*(x1*x1*x1+A*x1)-27*(x1*x1*x1+A*x1+B))*(0*0-(x1*x1*x1+A*x1+B)):=by
     grobner
    rw[e,J,G]
    grobner
   show pl i A (some (x1,-y1)) _=_
   rw[pl_is C (ng_on h1) d h j]
   have K:sx (-l) x1 (sx l x1 x2)=x2:=by clear e f h1 h2 j d hn h;unfold sx;grobner
   have L:sy (-l) x1 (-y1) x2=y2:=by
    have:=mvr f.1;rw[this];unfold sy
    grobner
   rw[K,L]
theorem pl_none(P:Option (Fin p×Fin p)):pl i A P none=P:=by
 cases P <;> rfl
theorem ad_comm(a b:Fin p):a+b=b+a:=by grobner
theorem neg_of{a b:Fin p}(h:a+b=0):b = -a:=by grobner
/-- The sum in any brackets. -/
theorem pl_assoc(C:Cur i A B){P Q R:Option (Fin p×Fin p)}(h1:On A B P)(h2:On A B Q)(h3:On A B R):pl i A (pl i A P Q) R=pl i A P (pl i A Q R):=by
 by_cases e1:Q=ng P
 ·subst e1;rw[pl_ng C];have:=pl_back C (ng_on h1) h3;rw[ng_ng]at this;rw[this]
  rfl
 by_cases e2:R=ng Q
 ·subst e2;rw[pl_ng C,pl_comm C (pl_on C h1 h2) (ng_on h2),pl_comm C h1 h2,pl_back C h2 h1]
  cases P <;> rfl
 by_cases e3:R=ng (pl i A P Q)
 ·have d:P=ng (pl i A Q R):=by
   have:=pl_back C h2 h1;rw[pl_comm C h2 h1,←ng_ng (pl i A P Q),←e3,←ng_pl C h2 h3]at this;exact this.symm
  have l:pl i A (pl i A P Q) R=none:=by
   rw[e3];exact pl_ng C _
  have r:=pl_ng C (pl i A Q R);rw[←d]at r;rw[l,pl_comm C h1 (pl_on C h2 h3),r]
 have d:P≠ng (pl i A Q R):=fun d=>by
  apply e3
  have:=pl_back C h2 h3;rw[←ng_ng (pl i A Q R),←d,←ng_pl C h2 h1,pl_comm C h2 h1]at this;exact this.symm
 match P,Q,R,h1,h2,h3,e1,e2,e3,d with
 | none,_,_,_,_,_,_,_,_,_=>rfl
 | some (_,_),none,_,_,_,_,_,_,_,_=>rfl
 | some (_,_),some (_,_),none,_,_,_,_,_,_,_=>exact pl_none _
 | some (x1,y1),some (x2,y2),some (x3,y3),h1,h2,h3,e1,e2,e3,d=>
  have L:Nop x1 y1 x2 y2:=fun⟨a,b⟩=>e1 (by
   show some (x2,y2)=some (x1,-y1)
   rw[a,neg_of b])
  have S:Nop x2 y2 x3 y3:=fun⟨a,b⟩=>e2 (by
   show some (x3,y3)=some (x2,-y2)
   rw[a,neg_of b])
  obtain⟨l,f,G⟩:=pl_ex C h1 h2 L;obtain⟨m,j,H⟩:=pl_ex C h2 h3 S;rw[G]at e3 ⊢;rw[H]at d ⊢;have U:=on_slope h1 f;have V:=on_slope h2 j
  have I:Nop (sx l x1 x2) (sy l x1 y1 (sx l x1 x2)) x3 y3:=fun⟨a,b⟩=>e3 (by
   show some (x3,y3)=some (sx l x1 x2,-(sy l x1 y1 (sx l x1 x2)))
   rw[neg_of b,a])
  have J:Nop x1 y1 (sx m x2 x3) (sy m x2 y2 (sx m x2 x3)):=fun⟨a,b⟩=>d (by
   show some (x1,y1)=some (sx m x2 x3,-(sy m x2 y2 (sx m x2 x3)))
   have e:=(ad_comm _ _).trans b
   rw[neg_of e,a])
  by_cases c:l=m
  ·subst c;have x:=mvl f.1;have D:=mvr j.1
   have q:(x1-x3)*(l*l-(x1+x2+x3))=0:=by
    have e:(x1-x3)*(l*l-(x1+x2+x3))=(l*(y1+y2)-(x1*x1+x1*x2+x2*x2+A))-(l*(y2+y3)-(x2*x2+x2*x3+x3*x3+A)):=by
     rw[x,D];clear x D f j h1 h2 h3 e1 e2 e3 d L S I J G H U V
     grobner
    rw[e,f.2,j.2]
    grobner
   rcases nzd C.pr _ _ q with h|h
   ·have ex:=sub_zero_of h
    have ey:y1=y3:=by
     rw[x,D,ex]
     grobner
    rw[←G,←H,←ex,←ey,pl_comm C h2 h1];exact pl_comm C (pl_on C h1 h2) h1
   ·refine absurd ⟨?_,?_⟩ I
    ·apply sub_zero_of
     rw[←h];unfold sx
     grobner
    ·have ex:sx l x1 x2=x3:=by
      apply sub_zero_of
      rw[←h];unfold sx
      grobner
     rw[ex,D,x];unfold sy
     grobner
  ·obtain⟨o,W,X⟩:=pl_ex C h1 V J;have Y:=sl_three C.pr f j J W;obtain⟨K,Z,r2⟩:=sl_other C.pr f j c Y;rw[←sy_symm f]at K;rw[X,pl_is C U h3 I K,Z,sy_symm K,r2]
/-- n times a point. -/
def ml(i:Fin p→Fin p)(A:Fin p):Nat→Option (Fin p×Fin p)→Option (Fin p×Fin p)
 | 0,_=>none
 | n+1,P=>pl i A (ml i A n P) P
theorem ml_on(C:Cur i A B){P:Option (Fin p×Fin p)}(h:On A B P):∀n,On A B (ml i A n P)
 | 0=>trivial
 | n+1=>pl_on C (ml_on C h n) h
theorem ml_one(P:Option (Fin p×Fin p)):ml i A 1 P=P:=rfl
theorem ml_add(C:Cur i A B){P:Option (Fin p×Fin p)}(h:On A B P)(m:Nat):∀n,ml i A (m+n) P=pl i A (ml i A m P) (ml i A n P)
 | 0=>(pl_none _).symm
 | n+1=>by
  show pl i A (ml i A (m+n) P) P=pl i A (ml i A m P) (pl i A (ml i A n P) P)
  rw[ml_add C h m n,pl_assoc C (ml_on C h m) (ml_on C h n) h]
end
end Go.Proofs.Ytffhepbppiocbaa.EC
namespace Go.Proofs.Ytffhepbppiocbaa.EC
section
variable {p:Nat} [NeZero p]
/-- The triple stands for the point. -/
def Rep(X Y Z:Fin p)(Q:Option (Fin p×Fin p)):Prop:=∃x y,Q=some (x,y)∧X=x*(Z*Z)∧Y=y*(Z*Z*Z)
/-! ### twice a triple -/
def jM(A X Z:Fin p):Fin p:=X*X+X*X+X*X+A*(Z*Z*(Z*Z))
def jT(X Y:Fin p):Fin p:=X*(Y*Y)+X*(Y*Y)
def dX(A X Y Z:Fin p):Fin p:=jM A X Z*jM A X Z-(jT X Y+jT X Y)-(jT X Y+jT X Y)
def jU(Y:Fin p):Fin p:=Y*Y*(Y*Y)+Y*Y*(Y*Y)
def dY(A X Y Z:Fin p):Fin p:=jM A X Z*(jT X Y+jT X Y-dX A X Y Z)-(jU Y+jU Y)-(jU Y+jU Y)
def dZ(Y Z:Fin p):Fin p:=Y*Z+Y*Z
/-! ### a triple and a point -/
def jH(x X Z:Fin p):Fin p:=x*(Z*Z)-X
def jR(y Y Z:Fin p):Fin p:=y*(Z*Z*Z)-Y
def aX(x y X Y Z:Fin p):Fin p:=jR y Y Z*jR y Y Z-jH x X Z*(jH x X Z*jH x X Z)-X*(jH x X Z*jH x X Z)-X*(jH x X Z*jH x X Z)
def aY(x y X Y Z:Fin p):Fin p:=jR y Y Z*(X*(jH x X Z*jH x X Z)-aX x y X Y Z)-Y*(jH x X Z*(jH x X Z*jH x X Z))
def aZ(x X Z:Fin p):Fin p:=Z*jH x X Z
variable {i:Fin p→Fin p} {A B:Fin p}
theorem zero_mul'(a:Fin p):0*a=0:=by grobner
theorem rep_dbl(C:Cur i A B){X Y Z:Fin p}{Q:Option (Fin p×Fin p)}(hQ:On A B Q)(h:Rep X Y Z Q)(hz:dZ Y Z≠0):Rep (dX A X Y Z) (dY A X Y Z) (dZ Y Z) (pl i A Q Q):=by
 obtain⟨x,y,rfl,rfl,rfl⟩:=h
 have j:¬(x=x∧y+y=0):=fun⟨_,h⟩=>hz (by
  have e:dZ (y*(Z*Z*Z)) Z=(y+y)*(Z*Z*Z*Z):=by unfold dZ;grobner
  rw[e,h];exact zero_mul' _)
 obtain⟨l,⟨-,d⟩,e⟩:=pl_ex C hQ hQ j
 have f:A=l*(y+y)-(x*x+x*x+x*x):=by rw[d];clear d e hz hQ;grobner
 refine⟨_,_,e,?_,?_⟩
 ·rw[f];unfold dX jM jT dZ sx
  grobner
 ·rw[f];unfold dY dX jM jT jU dZ sy sx
  grobner
theorem rep_add(C:Cur i A B){X Y Z x2 y2:Fin p}{Q:Option (Fin p×Fin p)}(hQ:On A B Q)(h2:OnC A B x2 y2)(h:Rep X Y Z Q)(hz:aZ x2 X Z≠0):Rep (aX x2 y2 X Y Z) (aY x2 y2 X Y Z) (aZ x2 X Z) (pl i A Q (some (x2,y2))):=by
 obtain⟨x,y,rfl,rfl,rfl⟩:=h
 have d:¬(x=x2∧y+y2=0):=fun⟨h,_⟩=>hz (by
  subst h;unfold aZ jH
  grobner)
 obtain⟨l,⟨f,-⟩,e⟩:=pl_ex C hQ h2 d
 have j:y2=y+l*(x2-x):=by rw[←f];clear f e hz hQ d h2;grobner
 refine⟨_,_,e,?_,?_⟩
 ·rw[j];unfold aX jR aZ jH sx
  grobner
 ·rw[j];unfold aY aX jR aZ jH sy sx
  grobner
end
/-! ### the same on plain numbers -/
def frc(n:Nat)(f:Nat→Bool):Bool:=match n with|0=>f 0|k+1=>f (k+1)
theorem frc_is(n:Nat)(f:Nat→Bool):frc n f=f n:=by cases n <;> rfl
def ad(p a b:Nat):Nat:=(a+b)%p
def mu(p a b:Nat):Nat:=a*b%p
def su(p a b:Nat):Nat:=(p-b+a)%p
def nM(p A XX ZZ:Nat):Nat:=ad p (ad p (ad p XX XX) XX) (mu p A (mu p ZZ ZZ))
def nT(p X YY:Nat):Nat:=ad p (mu p X YY) (mu p X YY)
def nU(p YY:Nat):Nat:=ad p (mu p YY YY) (mu p YY YY)
def jck(p A x y n:Nat)(fin:Nat→Nat→Nat→Bool):Nat→Nat→Nat→Nat→Bool
 | 0,X,Y,Z=>fin X Y Z
 | k+1,X,Y,Z=>
  frc (mu p Y Y) fun YY=>frc (nM p A (mu p X X) (mu p Z Z)) fun m=>frc (nT p X YY) fun t=>frc (ad p t t) fun s=>frc (su p (su p (mu p m m) s) s) fun X1=>frc (nU p YY) fun u=>frc (ad p u u) fun v=>
  frc (su p (su p (mu p m (su p s X1)) v) v) fun Y1=>frc (ad p (mu p Y Z) (mu p Y Z)) fun Z1=>
  bif n.testBit k then
   frc (mu p Z1 Z1) fun ZZ=>frc (su p (mu p x ZZ) X1) fun h=>frc (su p (mu p y (mu p ZZ Z1)) Y1) fun r=>frc (mu p h h) fun hh=>frc (mu p h hh) fun h3=>frc (mu p X1 hh) fun xh=>
   frc (su p (su p (su p (mu p r r) h3) xh) xh) fun X2=>frc (su p (mu p r (su p xh X2)) (mu p Y1 h3)) fun Y2=>frc (mu p Z1 h) fun Z2=>jck p A x y n fin k X2 Y2 Z2
  else jck p A x y n fin k X1 Y1 Z1
theorem v_ad{p:Nat}(a b:Fin p):ad p a.val b.val=(a+b).val:=(Fin.val_add a b).symm
theorem v_mu{p:Nat}(a b:Fin p):mu p a.val b.val=(a*b).val:=(Fin.val_mul a b).symm
theorem v_su{p:Nat}(a b:Fin p):su p a.val b.val=(a-b).val:=(Fin.sub_def a b▸rfl:(a-b).val=(p-b.val+a.val)%p).symm
section
variable {p:Nat} [NeZero p]
variable {i:Fin p→Fin p} {A B:Fin p}
theorem jck_is(C:Cur i A B)(n:Nat)(fin:Nat→Nat→Nat→Bool){x y:Fin p}(hG:OnC A B x y):∀(k:Nat) (X Y Z:Fin p),(Z≠0→Rep X Y Z (ml i A (n/2^k) (some (x,y))))→jck p A.val x.val y.val n fin k X.val Y.val Z.val=true →
 ∃X' Y' Z':Fin p,fin X'.val Y'.val Z'.val=true∧(Z'≠0→Rep X' Y' Z' (ml i A n (some (x,y))))
 | 0,X,Y,Z,h,hj=>⟨X,Y,Z,hj,by rw[Nat.pow_zero,Nat.div_one]at h;exact h⟩
 | k+1,X,Y,Z,h,hj=>by
  have hd:∀b:Nat,n/2^k%2=b→n/2^k=n/2^(k+1)+n/2^(k+1)+b:=fun b j=>by
   rw[Nat.pow_succ,←Nat.div_div_eq_div_mul];omega
  have f:=ml_on C (show On A B (some (x,y)) from hG);simp only[jck,frc_is,nM,nT,nU,v_mu,v_ad,v_su]at hj
  have D:dZ Y Z≠0→Rep (dX A X Y Z) (dY A X Y Z) (dZ Y Z) (ml i A (n/2^(k+1)+n/2^(k+1)) (some (x,y))):=fun d=>by
   have l:Z≠0:=fun e=>d (by rw[e];unfold dZ;grobner);rw[ml_add C (show On A B (some (x,y)) from hG)];exact rep_dbl C (f _) (h l) d
  rw[Nat.testBit_eq_decide_div_mod_eq]at hj
  by_cases j:n/2^k%2=1
  ·rw[decide_eq_true j,cond_true]at hj;refine jck_is C n fin hG k _ _ _ (fun d=>?_) hj;rw[hd 1 j];have q:dZ Y Z≠0:=fun e=>d (by show dZ Y Z*_=0;rw[e];exact zero_mul' _);exact rep_add C (f _) hG (D q) d
  ·rw[decide_eq_false j,cond_false]at hj;refine jck_is C n fin hG k _ _ _ (fun d=>?_) hj;rw[hd 0 (by omega)];exact D d
/-- The check at the end: it is the opposite of the base point. -/
def opp(p x y X Y Z:Nat):Bool:=Nat.beq X (mu p x (mu p Z Z))&&Nat.beq Y (mu p (su p 0 y) (mu p (mu p Z Z) Z)) && !Nat.beq Z 0
theorem ml_opp(C:Cur i A B){x y:Fin p}(hG:OnC A B x y)(n k:Nat)(hk:n/2^k=1)(h:jck p A.val x.val y.val n (opp p x.val y.val) k x.val y.val (1%p)=true):ml i A n (some (x,y))=ng (some (x,y)):=by
 have K:(1:Fin p).val=1%p:=rfl;rw[←K]at h;obtain⟨X,Y,Z,G,L⟩:=jck_is C n _ hG k x y 1 (fun _=>⟨x,y,by rw[hk];exact ml_one _,by grobner,by grobner⟩) h;have H:=(Fin.val_zero p).symm;simp only[opp,Bool.and_eq_true,Bool.not_eq_true']at G;obtain⟨⟨P,Q⟩,I⟩:=G;have f:=Nat.eq_of_beq_eq_true P;have d:=Nat.eq_of_beq_eq_true Q
 have q:Z≠0:=fun e=>by rw[e,←H]at I;exact absurd I (by decide)
 rw[H]at d;simp only[v_mu,v_su]at f d;replace f:=Fin.ext f;replace d:=Fin.ext d;obtain⟨a,b,e,j,l⟩:=L q;rw[e]
 have D:(a-x)*(Z*Z)=0:=by
  have:(a-x)*(Z*Z)=a*(Z*Z)-x*(Z*Z):=by clear f d j l e;grobner
  rw[this,←j,←f];clear f d j l e this;grobner
 have S:(b+y)*(Z*Z*Z)=0:=by
  have:(b+y)*(Z*Z*Z)=b*(Z*Z*Z)-(0-y)*(Z*Z*Z):=by clear f d j l e D;grobner
  rw[this,←l,←d];clear f d j l e D this;grobner
 have J:Z*Z≠0:=fun h=>by rcases nzd C.pr _ _ h with h|h <;> exact q h
 have U:Z*Z*Z≠0:=fun h=>by
  rcases nzd C.pr _ _ h with h|h
  ·exact J h
  ·exact q h
 have V:a=x:=by
  rcases nzd C.pr _ _ D with h|h
  ·exact sub_zero_of h
  ·exact absurd h J
 have W:b = -y:=by
  rcases nzd C.pr _ _ S with h|h
  ·exact neg_of (by rw[ad_comm];exact h)
  ·exact absurd h U
 rw[V,W]
 rfl
end
end Go.Proofs.Ytffhepbppiocbaa.EC