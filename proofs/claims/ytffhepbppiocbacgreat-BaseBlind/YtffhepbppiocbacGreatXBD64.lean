import Derived.BigRegion
import Derived.Deep.CutBlock
import Derived.Test.YtffhepbppiocbacGreatXBLib
import Derived.Test.YtffhepbppiocbacGreatXBEP
import Derived.Test.YtffhepbppiocbacGreatXBDig
import Derived.Test.YtffhepbppiocbacGreatXBLdS
namespace Go.Proofs.YtffhepbppiocbacGreat
open Go.RowKit Go.Proofs.Tryz
set_option maxRecDepth 100000
set_option maxHeartbeats 8000000
section
theorem lz_any(y:Nat)(h0:9223372036854775808≤y)(h1:y<18446744073709551616)(w:World):
 Calls prog 197 #[.int .u64 y] w fun e w'=>e=.returned (.int .i64 0)∧w=w':=by
 have f:Lib.bitLen ((y:Int)).toNat=64:=by
  rw[Int.toNat_natCast,bl_lib y h1];refine bl_unique y 64 fun m=>⟨fun d=>Nat.lt_of_lt_of_le h1 (Nat.pow_le_pow_right (n:=2) (by omega) d),fun d=>?_⟩
  by_cases hc:64≤m
  ·exact hc
  ·exfalso
   have:2^m≤2^63:=Nat.pow_le_pow_right (by decide) (by omega)
   omega
 have h:Hid (∀w,Calls prog 139 #[.int .u64 y] w fun e w'=>e=.returned (.int .i64 64)∧w'=w):=fun w=>by
  have:=len64 (y:Int) w (by omega) (by omega);rw[f]at this;exact this
 go_enter func197,ntmps197
 go_wp2_with (go_at_call 139;refine(h.out _).mono ?_;rintro e w' ⟨rfl,rfl⟩)
 go_ret
 exact⟨rfl,rfl⟩
theorem un21(hi l1 y D R:Nat)(hy:y<18446744073709551616)(hR:R<y)(e1:D=(hi*4294967296+l1)/y)(e2:R=(hi*4294967296+l1)%y):
 IntKind.u64.wrap (IntKind.u64.wrap (IntKind.u64.wrap ((hi:Int)*4294967296)+(l1:Int))-IntKind.u64.wrap ((D:Int)*y))=(R:Int):=by
 have h:=Nat.div_add_mod (hi*4294967296+l1) y;rw[←e1,←e2,Nat.mul_comm]at h;have e:(D:Int)*y=((D*y:Nat):Int):=(Int.natCast_mul D y).symm;rw[e];generalize D*y=P at *;simp only[IntKind.wrap_u64]
 omega
theorem q_facts(x v1 v0 u y:Nat)(hy:y=v1*4294967296+v0)(h0:0<y)(hx:x<y)(hu:u<4294967296):(x*4294967296+u)/y<4294967296∧(x*4294967296+u)/y*(v1*4294967296+v0)≤x*4294967296+u:=by
 rw[←hy];refine⟨?_,Nat.div_mul_le_self _ _⟩;rw[Nat.div_lt_iff_lt_mul h0]
 omega
theorem q_start(x v1 v0 u y:Nat)(hy:y=v1*4294967296+v0)(h0:0<y)(hu:u<4294967296):(x*4294967296+u)/y*v1≤x:=by
 have h:=Nat.div_mul_le_self (x*4294967296+u) y;generalize (x*4294967296+u)/y=q at *;subst hy
 grind
theorem fin_q(hi l1 l0 lo y q1 R q0:Nat)(hy:0<y)(hl:lo=l1*4294967296+l0)(h1:q1<4294967296)(h0:q0<4294967296)(e1:q1=(hi*4294967296+l1)/y)(eR:R=(hi*4294967296+l1)%y)(e0:q0=(R*4294967296+l0)/y):
 IntKind.u64.wrap (IntKind.u64.wrap ((q1:Int)*4294967296)+(q0:Int))=(((hi*18446744073709551616+lo)/y:Nat):Int):=by
 rw[hl,two_digits hi l1 l0 y q1 q0 R hy e1 eR e0];simp only[IntKind.wrap_u64]
 omega
theorem div64_any(hi lo y:Nat)(h0:9223372036854775808≤y)(h1:y<18446744073709551616)(h2:hi<y)(h3:lo<18446744073709551616)(w:World):
 Calls prog 196 #[.int .u64 hi,.int .u64 lo,.int .u64 y] w fun e w'=>∃v:Value,e=.returned (.tuple #[.int .u64 (((hi*18446744073709551616+lo)/y:Nat):Int),v])∧∃m,w'=w.drewN m:=by
 have HZ:Hid _:=lz_any y h0 h1
 have y1:¬(y:Int)=0:=by omega
 have y2:¬(y:Int)≤hi:=by omega
 have y3:((y:Int)==0)=false:=by rw[beq_eq_false_iff_ne];exact y1
 by_cases hz:hi=0
 ·subst hz;obtain⟨Q,hQ⟩:=exl (lo/y)
  have g1:(lo:Int).tdiv (y:Int)=Q:=by rw[Int.tdiv_eq_ediv_of_nonneg (by omega),←hQ,Int.natCast_ediv]
  have g7:(lo:Int)/y=Q:=by rw[←hQ,Int.natCast_ediv]
  have g8:Q≤lo:=by rw[←hQ];exact Nat.div_le_self _ _
  have g2:IntKind.u64.wrap (Q:Int)=Q:=wuA
  have HQ:Hu ((0*18446744073709551616+lo)/y=Q):=fun _=>by rw[Nat.zero_mul,Nat.zero_add];exact hQ
  clear hQ h0 h1 h2 h3 g8
  go_enter func196,ntmps196
  go_wp2
  go_big_region
  go_wp2
  go_ret2
  exact⟨_,by rw[HQ.out ()];rfl,1,rfl⟩
 ·have z1:((hi:Int)==0)=false:=by rw[beq_eq_false_iff_ne];omega
  obtain⟨i,aw⟩:=exl (y/4294967296);obtain⟨j,ak⟩:=exl (y%4294967296);obtain⟨A,ax⟩:=exl (lo/4294967296);obtain⟨B,ao⟩:=exl (lo%4294967296)
  have m0:bits BinOp.and IntKind.u64 (y:Int) 4294967295=(j:Int):=by rw[←ak];exact Mul64.maskN y h1
  have m1:bits BinOp.and IntKind.u64 (lo:Int) 4294967295=(B:Int):=by rw[←ao];exact Mul64.maskN lo h3
  have m2:bits BinOp.or IntKind.u64 (hi:Int) 0=(hi:Int):=by have:=bits_or_u64_nat hi 0 (by omega) (by omega);simpa using this
  have c1:(y:Int)/4294967296=i:=by omega
  have c2:(lo:Int)/4294967296=A:=by omega
  have b1:IntKind.u64.wrap (y:Int)=y:=wuA;have b2:IntKind.u64.wrap (hi:Int)=hi:=wuA;have b3:IntKind.u64.wrap (lo:Int)=lo:=wuA
  have c3:(lo:Int)/18446744073709551616=0:=by omega
  have hy:y=i*4294967296+j:=by omega
  have ap:2147483648≤i:=by omega
  have aq:i<4294967296:=by omega
  have n1:¬(i:Int)=0:=by omega
  have n2:((i:Int)==0)=false:=by rw[beq_eq_false_iff_ne];omega
  obtain⟨X,L⟩:=exl (hi/i);obtain⟨rA,aa⟩:=exl (hi%i);obtain⟨pA,ac⟩:=exl (X*i);have eA:=Nat.div_add_mod hi i;rw[L,aa,Nat.mul_comm,ac]at eA
  have A1:(hi:Int).tdiv (i:Int)=X:=by rw[Int.tdiv_eq_ediv_of_nonneg (by omega),←L,Int.natCast_ediv]
  have ay:X≤hi:=by rw[←L];exact Nat.div_le_self _ _
  have az:rA<i:=by rw[←aa];exact Nat.mod_lt _ (by omega)
  have A2:IntKind.u64.wrap (X:Int)=X:=wuA
  have A3:(X:Int)*i=pA:=by rw[←ac,Int.natCast_mul]
  have A4:IntKind.u64.wrap (pA:Int)=pA:=wuA
  have A5:(hi:Int)-pA=rA:=by omega
  have A6:IntKind.u64.wrap (rA:Int)=rA:=wuA
  have A7:(hi:Int)/i=X:=by rw[←L,Int.natCast_ediv]
  obtain⟨D,P⟩:=exl ((hi*4294967296+A)/y);obtain⟨R,hR⟩:=exl ((hi*4294967296+A)%y);obtain⟨G,V⟩:=exl ((R*4294967296+B)/y)
  have RL:R<y:=by rw[←hR];exact Nat.mod_lt _ (by omega)
  have ar:Hu (D<4294967296∧D*(i*4294967296+j)≤hi*4294967296+A):=fun _=>by rw[←P];exact q_facts hi i j A y hy (by omega) h2 (by omega)
  have au:Hu (G<4294967296∧G*(i*4294967296+j)≤R*4294967296+B):=fun _=>by rw[←V];exact q_facts R i j B y hy (by omega) RL (by omega)
  have aA:Hu (j<4294967296∧i<4294967296∧A<4294967296∧hi≤i*4294967296+4294967295):=fun _=>by omega
  have aB:Hu (j<4294967296∧i<4294967296∧B<4294967296∧R≤i*4294967296+4294967295):=fun _=>by omega
  have ae:Hu (Gs hi i D X rA):=fun _=>by
   rw[←L,←aa];exact gs_start hi i D (by omega) (by rw[←P];exact q_start hi i j A y hy (by omega) (by omega))
  have FA:Hu (rA<4294967296∧X<18446744073709551616):=fun _=>by omega
  have TA:∀d:Nat,Gf hi i j A D d→d=D:=fun d h=>by rw[←P]at h ⊢;exact gf_two hi i j A y d hy (by omega) h
  have TB:∀d:Nat,Gf R i j B G d→d=G:=fun d h=>by rw[←V]at h ⊢;exact gf_two R i j B y d hy (by omega) h
  have af:Hid _:=TA;have ag:Hid _:=TB;have av:=un21 hi A y D R h1 RL P.symm hR.symm;have FQ:=fin_q hi A B lo y D R G (by omega) (by omega) (ar.out ()).1 (au.out ()).1 P.symm hR.symm V.symm;have ah:Hu (_):=fun _=>FQ;obtain⟨Y,S⟩:=exl (R/i);obtain⟨rB,ab⟩:=exl (R%i);obtain⟨pB,ai⟩:=exl (Y*i);have eB:=Nat.div_add_mod R i;rw[S,ab,Nat.mul_comm,ai]at eB
  have B1:(R:Int).tdiv (i:Int)=Y:=by rw[Int.tdiv_eq_ediv_of_nonneg (by omega),←S,Int.natCast_ediv]
  have aC:Y≤R:=by rw[←S];exact Nat.div_le_self _ _
  have aD:rB<i:=by rw[←ab];exact Nat.mod_lt _ (by omega)
  have B2:IntKind.u64.wrap (Y:Int)=Y:=wuA
  have B3:(Y:Int)*i=pB:=by rw[←ai,Int.natCast_mul]
  have B4:IntKind.u64.wrap (pB:Int)=pB:=wuA
  have B5:(R:Int)-pB=rB:=by omega
  have B6:IntKind.u64.wrap (rB:Int)=rB:=wuA
  have B7:(R:Int)/i=Y:=by rw[←S,Int.natCast_ediv]
  have aj:Hu (Gs R i G Y rB):=fun _=>by
   rw[←S,←ab];exact gs_start R i G (by omega) (by rw[←V];exact q_start R i j B y hy (by omega) (by omega))
  have FB:Hu (rB<4294967296∧Y<18446744073709551616):=fun _=>by omega
  clear TA TB FQ P hR V RL L aa ac eA ay az S ab ai eB aC aD hy ap aq aw ak ax ao h0 h1 h2 h3 hz
  go_enter func196,ntmps196
  go_upto_block 0 with (go_at_call 197;refine(HZ.out _).mono ?_;rintro e w' ⟨rfl,rfl⟩)
  go_cut [15,16] from 67 to 85 (fun a b wx=>∃(d:Nat) (v:Value),a=.int .u64 d∧b=v∧Hu (Gf hi i j A D d)∧w=wx)
  case first=>
   have KQ:=ar;have H:=aA
   go_wp2_with fail
   go_loopw [15,16] (fun a b wr=>∃d r:Nat,a=.int .u64 d∧b=.int .u64 r∧Hu (r<4294967296)∧Hu (d<18446744073709551616)∧Hu (Gs hi i D d r)∧w=wr) (fun a _ _=>(intOf a).toNat)
   case atStart=>exact⟨X,rA,rfl,rfl,fun _=>(FA.out ()).1,fun _=>(FA.out ()).2,ae,rfl⟩
   case round=>
    clear ae FA A1 A2 A3 A4 A5 A6 A7 B1 B2 B3 B4 B5 B6 B7 av aj FB af ag ah;obtain⟨d,r,rfl,rfl,HR,HL,HG,rfl⟩:=hrel;have Z:=HR.out ();have dl:=HL.out ();have vl:=(H.out ()).2.1
    by_cases hB:4294967296≤d
    ·have b9:(4294967296:Int)≤d:=by omega
     have q:4294967296≤d∨r*4294967296+A<d*j:=Or.inl hB;obtain⟨W,x⟩:=gs_dec hi i j A D d r (HG.out ()) (KQ.out ()).1 (KQ.out ()).2 q;obtain⟨e,I⟩:=exl (d-1);rw[I]at x;obtain⟨f,J⟩:=exl (r+i);rw[J]at x
     have f1:(d:Int)-1=e:=by omega
     have f2:IntKind.u64.wrap (e:Int)=e:=wuA
     have f3:(r:Int)+i=f:=by omega
     have f4:IntKind.u64.wrap (f:Int)=f:=wuA;have K:Hu (_):=fun _=>x
     have HM:Hu (e<d):=fun _=>by omega
     have HE:Hu (e<18446744073709551616):=fun _=>by omega
     by_cases hr:f<4294967296
     ·have r1:¬(4294967296:Int)≤f:=by omega
      have C:Hu (_):=fun _=>hr;clear hr hB q x I J W Z dl vl
      go_wp2
      go_roundw
      case rel=>exact⟨e,f,rfl,rfl,C,HE,K,trivial⟩
      case measure=>have:=HM.out ();simp[intOf];omega
     ·have r1:(4294967296:Int)≤f:=by omega
      have C:Hu (Gf hi i j A D e):=fun _=>gs_break hi i j A D e f (H.out ()).1 x (by omega) (H.out ()).2.2.2;clear hr hB q x I J W Z dl vl
      go_wp2
      go_meet
      exact⟨e,_,rfl,rfl,C,rfl⟩
    ·have b9:¬(4294967296:Int)≤d:=by omega
     obtain⟨p,U⟩:=exl (d*j)
     have p1:(d:Int)*j=p:=by rw[←U,Int.natCast_mul]
     have pl:p<18446744073709551616:=by
      have h1:d*j≤4294967295*4294967295:=Nat.mul_le_mul (by omega) (by have:=(H.out ()).1;omega)
      omega
     have p2:IntKind.u64.wrap (p:Int)=p:=wuA;obtain⟨t,ht⟩:=exl (r*4294967296+A)
     have tl:t<18446744073709551616:=by have:=(H.out ()).2.2.1;omega
     obtain⟨s,hs⟩:=exl (4294967296*r)
     have t0:4294967296*(r:Int)=s:=by omega
     have t1:IntKind.u64.wrap (s:Int)=s:=wuA
     have t2:(s:Int)+A=t:=by omega
     have t3:IntKind.u64.wrap (t:Int)=t:=wuA
     by_cases hT:t<p
     ·have b8:(t:Int)<p:=by omega
      have q:4294967296≤d∨r*4294967296+A<d*j:=Or.inr (by rw[U,ht];exact hT);obtain⟨W,x⟩:=gs_dec hi i j A D d r (HG.out ()) (KQ.out ()).1 (KQ.out ()).2 q;obtain⟨e,I⟩:=exl (d-1);rw[I]at x;obtain⟨f,J⟩:=exl (r+i);rw[J]at x
      have f1:(d:Int)-1=e:=by omega
      have f2:IntKind.u64.wrap (e:Int)=e:=wuA
      have f3:(r:Int)+i=f:=by omega
      have f4:IntKind.u64.wrap (f:Int)=f:=wuA;have K:Hu (_):=fun _=>x
      have HM:Hu (e<d):=fun _=>by omega
      have HE:Hu (e<18446744073709551616):=fun _=>by omega
      by_cases hr:f<4294967296
      ·have r1:¬(4294967296:Int)≤f:=by omega
       have C:Hu (_):=fun _=>hr;clear hr hB q x I J W U ht hT pl tl Z dl vl hs
       go_wp2
       go_roundw
       case rel=>exact⟨e,f,rfl,rfl,C,HE,K,trivial⟩
       case measure=>have:=HM.out ();simp[intOf];omega
      ·have r1:(4294967296:Int)≤f:=by omega
       have C:Hu (Gf hi i j A D e):=fun _=>gs_break hi i j A D e f (H.out ()).1 x (by omega) (H.out ()).2.2.2;clear hr hB q x I J W U ht hT pl tl Z dl vl hs
       go_wp2
       go_meet
       exact⟨e,_,rfl,rfl,C,rfl⟩
     ·have b8:¬(t:Int)<p:=by omega
      have C:Hu (Gf hi i j A D d):=fun _=>gs_stop hi i j A D d r (HG.out ()) (by omega) (by rw[U,ht];omega);clear hB U ht hT pl tl Z dl vl hs
      go_wp2
      go_meet
      exact⟨d,_,rfl,rfl,C,rfl⟩
  case rest=>
   obtain⟨d,v,rfl,rfl,C,rfl⟩:=hcut;obtain rfl:d=D:=af.out d (C.out ());clear C ae FA A1 A2 A3 A4 A5 A6 A7
   go_upto_block 2 with fail
   go_cut [18,16] from 102 to 120 (fun a b wx=>∃(d:Nat) (v:Value),a=.int .u64 d∧b=v∧Hu (Gf R i j B G d)∧w=wx)
   case first=>
    have KQ:=au;have H:=aB
    go_wp2_with fail
    go_loopw [18,16] (fun a b wr=>∃d r:Nat,a=.int .u64 d∧b=.int .u64 r∧Hu (r<4294967296)∧Hu (d<18446744073709551616)∧Hu (Gs R i G d r)∧w=wr) (fun a _ _=>(intOf a).toNat)
    case atStart=>exact⟨Y,rB,rfl,rfl,fun _=>(FB.out ()).1,fun _=>(FB.out ()).2,aj,rfl⟩
    case round=>
     clear B1 B2 B3 B4 B5 B6 B7 av aj FB af ag ah;obtain⟨d,r,rfl,rfl,HR,HL,HG,rfl⟩:=hrel;have Z:=HR.out ();have dl:=HL.out ();have vl:=(H.out ()).2.1
     by_cases hB:4294967296≤d
     ·have b9:(4294967296:Int)≤d:=by omega
      have q:4294967296≤d∨r*4294967296+B<d*j:=Or.inl hB;obtain⟨W,x⟩:=gs_dec R i j B G d r (HG.out ()) (KQ.out ()).1 (KQ.out ()).2 q;obtain⟨e,I⟩:=exl (d-1);rw[I]at x;obtain⟨f,J⟩:=exl (r+i);rw[J]at x
      have f1:(d:Int)-1=e:=by omega
      have f2:IntKind.u64.wrap (e:Int)=e:=wuA
      have f3:(r:Int)+i=f:=by omega
      have f4:IntKind.u64.wrap (f:Int)=f:=wuA;have K:Hu (_):=fun _=>x
      have HM:Hu (e<d):=fun _=>by omega
      have HE:Hu (e<18446744073709551616):=fun _=>by omega
      by_cases hr:f<4294967296
      ·have r1:¬(4294967296:Int)≤f:=by omega
       have C:Hu (_):=fun _=>hr;clear hr hB q x I J W Z dl vl
       go_wp2
       go_roundw
       case rel=>exact⟨e,f,rfl,rfl,C,HE,K,trivial⟩
       case measure=>have:=HM.out ();simp[intOf];omega
      ·have r1:(4294967296:Int)≤f:=by omega
       have C:Hu (Gf R i j B G e):=fun _=>gs_break R i j B G e f (H.out ()).1 x (by omega) (H.out ()).2.2.2;clear hr hB q x I J W Z dl vl
       go_wp2
       go_meet
       exact⟨e,_,rfl,rfl,C,rfl⟩
     ·have b9:¬(4294967296:Int)≤d:=by omega
      obtain⟨p,U⟩:=exl (d*j)
      have p1:(d:Int)*j=p:=by rw[←U,Int.natCast_mul]
      have pl:p<18446744073709551616:=by
       have h1:d*j≤4294967295*4294967295:=Nat.mul_le_mul (by omega) (by have:=(H.out ()).1;omega)
       omega
      have p2:IntKind.u64.wrap (p:Int)=p:=wuA;obtain⟨t,ht⟩:=exl (r*4294967296+B)
      have tl:t<18446744073709551616:=by have:=(H.out ()).2.2.1;omega
      obtain⟨s,hs⟩:=exl (4294967296*r)
      have t0:4294967296*(r:Int)=s:=by omega
      have t1:IntKind.u64.wrap (s:Int)=s:=wuA
      have t2:(s:Int)+B=t:=by omega
      have t3:IntKind.u64.wrap (t:Int)=t:=wuA
      by_cases hT:t<p
      ·have b8:(t:Int)<p:=by omega
       have q:4294967296≤d∨r*4294967296+B<d*j:=Or.inr (by rw[U,ht];exact hT);obtain⟨W,x⟩:=gs_dec R i j B G d r (HG.out ()) (KQ.out ()).1 (KQ.out ()).2 q;obtain⟨e,I⟩:=exl (d-1);rw[I]at x;obtain⟨f,J⟩:=exl (r+i);rw[J]at x
       have f1:(d:Int)-1=e:=by omega
       have f2:IntKind.u64.wrap (e:Int)=e:=wuA
       have f3:(r:Int)+i=f:=by omega
       have f4:IntKind.u64.wrap (f:Int)=f:=wuA;have K:Hu (_):=fun _=>x
       have HM:Hu (e<d):=fun _=>by omega
       have HE:Hu (e<18446744073709551616):=fun _=>by omega
       by_cases hr:f<4294967296
       ·have r1:¬(4294967296:Int)≤f:=by omega
        have C:Hu (_):=fun _=>hr;clear hr hB q x I J W U ht hT pl tl Z dl vl hs
        go_wp2
        go_roundw
        case rel=>exact⟨e,f,rfl,rfl,C,HE,K,trivial⟩
        case measure=>have:=HM.out ();simp[intOf];omega
       ·have r1:(4294967296:Int)≤f:=by omega
        have C:Hu (Gf R i j B G e):=fun _=>gs_break R i j B G e f (H.out ()).1 x (by omega) (H.out ()).2.2.2;clear hr hB q x I J W U ht hT pl tl Z dl vl hs
        go_wp2
        go_meet
        exact⟨e,_,rfl,rfl,C,rfl⟩
      ·have b8:¬(t:Int)<p:=by omega
       have C:Hu (Gf R i j B G d):=fun _=>gs_stop R i j B G d r (HG.out ()) (by omega) (by rw[U,ht];omega)
       go_wp2
       go_meet
       exact⟨d,_,rfl,rfl,C,rfl⟩
   case rest=>
    obtain⟨d2,v2,rfl,rfl,aE,rfl⟩:=hcut;obtain rfl:d2=G:=ag.out d2 (aE.out ());have FQ:=ah.out ();obtain⟨Q,hQ⟩:=exl ((hi*18446744073709551616+lo)/y);rw[hQ]at FQ;have aG:Hu (_):=fun _=>hQ
    go_wp2
    go_ret2
    exact⟨_,by rw[aG.out ()];rfl,0,rfl⟩
end
end Go.Proofs.YtffhepbppiocbacGreat