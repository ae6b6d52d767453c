import Derived.BigRegion
import Derived.Deep.CutBlock
import Derived.Test.YtffhepbppiocbaaXBLib
import Derived.Test.YtffhepbppiocbaaXBEC
import Derived.Test.YtffhepbppiocbaaXBDig
import Derived.Test.YtffhepbppiocbaaXBLdS
namespace Go.Proofs.Ytffhepbppiocbaa
open Go.RowKit Go.Proofs.Try
set_option maxRecDepth 100000
set_option maxHeartbeats 8000000
section
theorem lz_any(y:Nat)(h0:9223372036854775808≤y)(h1:y<18446744073709551616)(w:World):
 Calls prog 109 #[.int .u64 y] w fun e w'=>e=.returned (.int .i64 0)∧w=w':=by
 have f:Lib.bitLen ((y:Int)).toNat=64:=by
  rw[Int.toNat_natCast,bl_lib y h1];refine bl_unique y 64 fun m=>⟨fun d=>Nat.lt_of_lt_of_le h1 (Nat.pow_le_pow_right (n:=2) (by omega) d),fun d=>?_⟩
  by_cases hc:64≤m
  ·exact hc
  ·exfalso
   have:2^m≤2^63:=Nat.pow_le_pow_right (by decide) (by omega)
   omega
 have h:Hid (∀w,Calls prog 73 #[.int .u64 y] w fun e w'=>e=.returned (.int .i64 64)∧w'=w):=fun w=>by
  have:=len64 (y:Int) w (by omega) (by omega);rw[f]at this;exact this
 go_enter func109,ntmps109
 go_wp2_with (go_at_call 73;refine(h.out _).mono ?_;rintro e w' ⟨rfl,rfl⟩)
 go_ret
 exact⟨rfl,rfl⟩
theorem un21(hi l1 y D R:Nat)(hy:y<18446744073709551616)(hR:R<y)(e1:D=(hi*4294967296+l1)/y)(e2:R=(hi*4294967296+l1)%y):
 IntKind.u64.wrap (IntKind.u64.wrap (IntKind.u64.wrap ((hi:Int)*4294967296)+(l1:Int))-IntKind.u64.wrap ((D:Int)*y))=(R:Int):=by
 have h:=Nat.div_add_mod (hi*4294967296+l1) y;rw[←e1,←e2,Nat.mul_comm]at h;have e:(D:Int)*y=((D*y:Nat):Int):=(Int.natCast_mul D y).symm;rw[e];generalize D*y=P at *;simp only[IntKind.wrap_u64]
 omega
theorem q_facts(x v1 v0 u y:Nat)(hy:y=v1*4294967296+v0)(h0:0<y)(hx:x<y)(hu:u<4294967296):(x*4294967296+u)/y<4294967296∧(x*4294967296+u)/y*(v1*4294967296+v0)≤x*4294967296+u:=by
 rw[←hy];refine⟨?_,Nat.div_mul_le_self _ _⟩;rw[Nat.div_lt_iff_lt_mul h0]
 omega
theorem q_start(x v1 v0 u y:Nat)(hy:y=v1*4294967296+v0)(h0:0<y)(hu:u<4294967296):(x*4294967296+u)/y*v1≤x:=by
 have h:=Nat.div_mul_le_self (x*4294967296+u) y;generalize (x*4294967296+u)/y=q at *;subst hy
 grind
theorem fin_q(hi l1 l0 lo y q1 R q0:Nat)(hy:0<y)(hl:lo=l1*4294967296+l0)(h1:q1<4294967296)(h0:q0<4294967296)(e1:q1=(hi*4294967296+l1)/y)(eR:R=(hi*4294967296+l1)%y)(e0:q0=(R*4294967296+l0)/y):
 IntKind.u64.wrap (IntKind.u64.wrap ((q1:Int)*4294967296)+(q0:Int))=(((hi*18446744073709551616+lo)/y:Nat):Int):=by
 rw[hl,two_digits hi l1 l0 y q1 q0 R hy e1 eR e0];simp only[IntKind.wrap_u64]
 omega
theorem div64_any(hi lo y:Nat)(h0:9223372036854775808≤y)(h1:y<18446744073709551616)(h2:hi<y)(h3:lo<18446744073709551616)(w:World):
 Calls prog 108 #[.int .u64 hi,.int .u64 lo,.int .u64 y] w fun e w'=>∃v:Value,e=.returned (.tuple #[.int .u64 (((hi*18446744073709551616+lo)/y:Nat):Int),v])∧∃m,w'=w.drewN m:=by
 have HZ:Hid _:=lz_any y h0 h1
 have y1:¬(y:Int)=0:=by omega
 have y2:¬(y:Int)≤hi:=by omega
 have y3:((y:Int)==0)=false:=by rw[beq_eq_false_iff_ne];exact y1
 by_cases hz:hi=0
 ·subst hz;obtain⟨Q,hQ⟩:=exl (lo/y)
  have g1:(lo:Int).tdiv (y:Int)=Q:=by rw[Int.tdiv_eq_ediv_of_nonneg (by omega),←hQ,Int.natCast_ediv]
  have g7:(lo:Int)/y=Q:=by rw[←hQ,Int.natCast_ediv]
  have g8:Q≤lo:=by rw[←hQ];exact Nat.div_le_self _ _
  have g2:IntKind.u64.wrap (Q:Int)=Q:=wuA
  have HQ:Hu ((0*18446744073709551616+lo)/y=Q):=fun _=>by rw[Nat.zero_mul,Nat.zero_add];exact hQ
  clear hQ h0 h1 h2 h3 g8
  go_enter func108,ntmps108
  go_wp2
  go_big_region
  go_wp2
  go_ret2
  exact⟨_,by rw[HQ.out ()];rfl,1,rfl⟩
 ·have z1:((hi:Int)==0)=false:=by rw[beq_eq_false_iff_ne];omega
  obtain⟨i,av⟩:=exl (y/4294967296);obtain⟨j,aj⟩:=exl (y%4294967296);obtain⟨x,aw⟩:=exl (lo/4294967296);obtain⟨A,ak⟩:=exl (lo%4294967296)
  have m0:bits BinOp.and IntKind.u64 (y:Int) 4294967295=(j:Int):=by rw[←aj];exact Mul64.maskN y h1
  have m1:bits BinOp.and IntKind.u64 (lo:Int) 4294967295=(A:Int):=by rw[←ak];exact Mul64.maskN lo h3
  have m2:bits BinOp.or IntKind.u64 (hi:Int) 0=(hi:Int):=by have:=bits_or_u64_nat hi 0 (by omega) (by omega);simpa using this
  have c1:(y:Int)/4294967296=i:=by omega
  have c2:(lo:Int)/4294967296=x:=by omega
  have b1:IntKind.u64.wrap (y:Int)=y:=wuA;have b2:IntKind.u64.wrap (hi:Int)=hi:=wuA;have b3:IntKind.u64.wrap (lo:Int)=lo:=wuA
  have c3:(lo:Int)/18446744073709551616=0:=by omega
  have hy:y=i*4294967296+j:=by omega
  have ao:2147483648≤i:=by omega
  have ap:i<4294967296:=by omega
  have n1:¬(i:Int)=0:=by omega
  have n2:((i:Int)==0)=false:=by rw[beq_eq_false_iff_ne];omega
  obtain⟨W,K⟩:=exl (hi/i);obtain⟨rA,aa⟩:=exl (hi%i);obtain⟨pA,ac⟩:=exl (W*i);have eA:=Nat.div_add_mod hi i;rw[K,aa,Nat.mul_comm,ac]at eA
  have A1:(hi:Int).tdiv (i:Int)=W:=by rw[Int.tdiv_eq_ediv_of_nonneg (by omega),←K,Int.natCast_ediv]
  have ax:W≤hi:=by rw[←K];exact Nat.div_le_self _ _
  have ay:rA<i:=by rw[←aa];exact Nat.mod_lt _ (by omega)
  have A2:IntKind.u64.wrap (W:Int)=W:=wuA
  have A3:(W:Int)*i=pA:=by rw[←ac,Int.natCast_mul]
  have A4:IntKind.u64.wrap (pA:Int)=pA:=wuA
  have A5:(hi:Int)-pA=rA:=by omega
  have A6:IntKind.u64.wrap (rA:Int)=rA:=wuA
  have A7:(hi:Int)/i=W:=by rw[←K,Int.natCast_ediv]
  obtain⟨C,L⟩:=exl ((hi*4294967296+x)/y);obtain⟨R,hR⟩:=exl ((hi*4294967296+x)%y);obtain⟨D,U⟩:=exl ((R*4294967296+A)/y)
  have RL:R<y:=by rw[←hR];exact Nat.mod_lt _ (by omega)
  have aq:Hu (C<4294967296∧C*(i*4294967296+j)≤hi*4294967296+x):=fun _=>by rw[←L];exact q_facts hi i j x y hy (by omega) h2 (by omega)
  have ar:Hu (D<4294967296∧D*(i*4294967296+j)≤R*4294967296+A):=fun _=>by rw[←U];exact q_facts R i j A y hy (by omega) RL (by omega)
  have az:Hu (j<4294967296∧i<4294967296∧x<4294967296∧hi≤i*4294967296+4294967295):=fun _=>by omega
  have aA:Hu (j<4294967296∧i<4294967296∧A<4294967296∧R≤i*4294967296+4294967295):=fun _=>by omega
  have ad:Hu (Gs hi i C W rA):=fun _=>by
   rw[←K,←aa];exact gs_start hi i C (by omega) (by rw[←L];exact q_start hi i j x y hy (by omega) (by omega))
  have FA:Hu (rA<4294967296∧W<18446744073709551616):=fun _=>by omega
  have TA:∀d:Nat,Gf hi i j x C d→d=C:=fun d h=>by rw[←L]at h ⊢;exact gf_two hi i j x y d hy (by omega) h
  have TB:∀d:Nat,Gf R i j A D d→d=D:=fun d h=>by rw[←U]at h ⊢;exact gf_two R i j A y d hy (by omega) h
  have ae:Hid _:=TA;have af:Hid _:=TB;have au:=un21 hi x y C R h1 RL L.symm hR.symm;have FQ:=fin_q hi x A lo y C R D (by omega) (by omega) (aq.out ()).1 (ar.out ()).1 L.symm hR.symm U.symm;have ag:Hu (_):=fun _=>FQ;obtain⟨X,P⟩:=exl (R/i);obtain⟨rB,ab⟩:=exl (R%i);obtain⟨pB,ah⟩:=exl (X*i);have eB:=Nat.div_add_mod R i;rw[P,ab,Nat.mul_comm,ah]at eB
  have B1:(R:Int).tdiv (i:Int)=X:=by rw[Int.tdiv_eq_ediv_of_nonneg (by omega),←P,Int.natCast_ediv]
  have aB:X≤R:=by rw[←P];exact Nat.div_le_self _ _
  have aC:rB<i:=by rw[←ab];exact Nat.mod_lt _ (by omega)
  have B2:IntKind.u64.wrap (X:Int)=X:=wuA
  have B3:(X:Int)*i=pB:=by rw[←ah,Int.natCast_mul]
  have B4:IntKind.u64.wrap (pB:Int)=pB:=wuA
  have B5:(R:Int)-pB=rB:=by omega
  have B6:IntKind.u64.wrap (rB:Int)=rB:=wuA
  have B7:(R:Int)/i=X:=by rw[←P,Int.natCast_ediv]
  have ai:Hu (Gs R i D X rB):=fun _=>by
   rw[←P,←ab];exact gs_start R i D (by omega) (by rw[←U];exact q_start R i j A y hy (by omega) (by omega))
  have FB:Hu (rB<4294967296∧X<18446744073709551616):=fun _=>by omega
  clear TA TB FQ L hR U RL K aa ac eA ax ay P ab ah eB aB aC hy ao ap av aj aw ak h0 h1 h2 h3 hz
  go_enter func108,ntmps108
  go_upto_block 0 with (go_at_call 109;refine(HZ.out _).mono ?_;rintro e w' ⟨rfl,rfl⟩)
  go_cut [15,16] from 67 to 85 (fun a b wx=>∃(d:Nat) (v:Value),a=.int .u64 d∧b=v∧Hu (Gf hi i j x C d)∧w=wx)
  case first=>
   have KQ:=aq;have G:=az
   go_wp2_with fail
   go_loopw [15,16] (fun a b wr=>∃d r:Nat,a=.int .u64 d∧b=.int .u64 r∧Hu (r<4294967296)∧Hu (d<18446744073709551616)∧Hu (Gs hi i C d r)∧w=wr) (fun a _ _=>(intOf a).toNat)
   case atStart=>exact⟨W,rA,rfl,rfl,fun _=>(FA.out ()).1,fun _=>(FA.out ()).2,ad,rfl⟩
   case round=>
    clear ad FA A1 A2 A3 A4 A5 A6 A7 B1 B2 B3 B4 B5 B6 B7 au ai FB ae af ag;obtain⟨d,r,rfl,rfl,HR,HL,HG,rfl⟩:=hrel;have Y:=HR.out ();have dl:=HL.out ();have Z:=(G.out ()).2.1
    by_cases hB:4294967296≤d
    ·have b9:(4294967296:Int)≤d:=by omega
     have l:4294967296≤d∨r*4294967296+x<d*j:=Or.inl hB;obtain⟨V,q⟩:=gs_dec hi i j x C d r (HG.out ()) (KQ.out ()).1 (KQ.out ()).2 l;obtain⟨e,H⟩:=exl (d-1);rw[H]at q;obtain⟨f,I⟩:=exl (r+i);rw[I]at q
     have f1:(d:Int)-1=e:=by omega
     have f2:IntKind.u64.wrap (e:Int)=e:=wuA
     have f3:(r:Int)+i=f:=by omega
     have f4:IntKind.u64.wrap (f:Int)=f:=wuA;have J:Hu (_):=fun _=>q
     have HM:Hu (e<d):=fun _=>by omega
     have HE:Hu (e<18446744073709551616):=fun _=>by omega
     by_cases hr:f<4294967296
     ·have r1:¬(4294967296:Int)≤f:=by omega
      have B:Hu (_):=fun _=>hr;clear hr hB l q H I V Y dl Z
      go_wp2
      go_roundw
      case rel=>exact⟨e,f,rfl,rfl,B,HE,J,trivial⟩
      case measure=>have:=HM.out ();simp[intOf];omega
     ·have r1:(4294967296:Int)≤f:=by omega
      have B:Hu (Gf hi i j x C e):=fun _=>gs_break hi i j x C e f (G.out ()).1 q (by omega) (G.out ()).2.2.2;clear hr hB l q H I V Y dl Z
      go_wp2
      go_meet
      exact⟨e,_,rfl,rfl,B,rfl⟩
    ·have b9:¬(4294967296:Int)≤d:=by omega
     obtain⟨p,S⟩:=exl (d*j)
     have p1:(d:Int)*j=p:=by rw[←S,Int.natCast_mul]
     have pl:p<18446744073709551616:=by
      have h1:d*j≤4294967295*4294967295:=Nat.mul_le_mul (by omega) (by have:=(G.out ()).1;omega)
      omega
     have p2:IntKind.u64.wrap (p:Int)=p:=wuA;obtain⟨t,ht⟩:=exl (r*4294967296+x)
     have tl:t<18446744073709551616:=by have:=(G.out ()).2.2.1;omega
     obtain⟨s,hs⟩:=exl (4294967296*r)
     have t0:4294967296*(r:Int)=s:=by omega
     have t1:IntKind.u64.wrap (s:Int)=s:=wuA
     have t2:(s:Int)+x=t:=by omega
     have t3:IntKind.u64.wrap (t:Int)=t:=wuA
     by_cases hT:t<p
     ·have b8:(t:Int)<p:=by omega
      have l:4294967296≤d∨r*4294967296+x<d*j:=Or.inr (by rw[S,ht];exact hT);obtain⟨V,q⟩:=gs_dec hi i j x C d r (HG.out ()) (KQ.out ()).1 (KQ.out ()).2 l;obtain⟨e,H⟩:=exl (d-1);rw[H]at q;obtain⟨f,I⟩:=exl (r+i);rw[I]at q
      have f1:(d:Int)-1=e:=by omega
      have f2:IntKind.u64.wrap (e:Int)=e:=wuA
      have f3:(r:Int)+i=f:=by omega
      have f4:IntKind.u64.wrap (f:Int)=f:=wuA;have J:Hu (_):=fun _=>q
      have HM:Hu (e<d):=fun _=>by omega
      have HE:Hu (e<18446744073709551616):=fun _=>by omega
      by_cases hr:f<4294967296
      ·have r1:¬(4294967296:Int)≤f:=by omega
       have B:Hu (_):=fun _=>hr;clear hr hB l q H I V S ht hT pl tl Y dl Z hs
       go_wp2
       go_roundw
       case rel=>exact⟨e,f,rfl,rfl,B,HE,J,trivial⟩
       case measure=>have:=HM.out ();simp[intOf];omega
      ·have r1:(4294967296:Int)≤f:=by omega
       have B:Hu (Gf hi i j x C e):=fun _=>gs_break hi i j x C e f (G.out ()).1 q (by omega) (G.out ()).2.2.2;clear hr hB l q H I V S ht hT pl tl Y dl Z hs
       go_wp2
       go_meet
       exact⟨e,_,rfl,rfl,B,rfl⟩
     ·have b8:¬(t:Int)<p:=by omega
      have B:Hu (Gf hi i j x C d):=fun _=>gs_stop hi i j x C d r (HG.out ()) (by omega) (by rw[S,ht];omega);clear hB S ht hT pl tl Y dl Z hs
      go_wp2
      go_meet
      exact⟨d,_,rfl,rfl,B,rfl⟩
  case rest=>
   obtain⟨d,v,rfl,rfl,B,rfl⟩:=hcut;obtain rfl:d=C:=ae.out d (B.out ());clear B ad FA A1 A2 A3 A4 A5 A6 A7
   go_upto_block 2 with fail
   go_cut [18,16] from 102 to 120 (fun a b wx=>∃(d:Nat) (v:Value),a=.int .u64 d∧b=v∧Hu (Gf R i j A D d)∧w=wx)
   case first=>
    have KQ:=ar;have G:=aA
    go_wp2_with fail
    go_loopw [18,16] (fun a b wr=>∃d r:Nat,a=.int .u64 d∧b=.int .u64 r∧Hu (r<4294967296)∧Hu (d<18446744073709551616)∧Hu (Gs R i D d r)∧w=wr) (fun a _ _=>(intOf a).toNat)
    case atStart=>exact⟨X,rB,rfl,rfl,fun _=>(FB.out ()).1,fun _=>(FB.out ()).2,ai,rfl⟩
    case round=>
     clear B1 B2 B3 B4 B5 B6 B7 au ai FB ae af ag;obtain⟨d,r,rfl,rfl,HR,HL,HG,rfl⟩:=hrel;have Y:=HR.out ();have dl:=HL.out ();have Z:=(G.out ()).2.1
     by_cases hB:4294967296≤d
     ·have b9:(4294967296:Int)≤d:=by omega
      have l:4294967296≤d∨r*4294967296+A<d*j:=Or.inl hB;obtain⟨V,q⟩:=gs_dec R i j A D d r (HG.out ()) (KQ.out ()).1 (KQ.out ()).2 l;obtain⟨e,H⟩:=exl (d-1);rw[H]at q;obtain⟨f,I⟩:=exl (r+i);rw[I]at q
      have f1:(d:Int)-1=e:=by omega
      have f2:IntKind.u64.wrap (e:Int)=e:=wuA
      have f3:(r:Int)+i=f:=by omega
      have f4:IntKind.u64.wrap (f:Int)=f:=wuA;have J:Hu (_):=fun _=>q
      have HM:Hu (e<d):=fun _=>by omega
      have HE:Hu (e<18446744073709551616):=fun _=>by omega
      by_cases hr:f<4294967296
      ·have r1:¬(4294967296:Int)≤f:=by omega
       have B:Hu (_):=fun _=>hr;clear hr hB l q H I V Y dl Z
       go_wp2
       go_roundw
       case rel=>exact⟨e,f,rfl,rfl,B,HE,J,trivial⟩
       case measure=>have:=HM.out ();simp[intOf];omega
      ·have r1:(4294967296:Int)≤f:=by omega
       have B:Hu (Gf R i j A D e):=fun _=>gs_break R i j A D e f (G.out ()).1 q (by omega) (G.out ()).2.2.2;clear hr hB l q H I V Y dl Z
       go_wp2
       go_meet
       exact⟨e,_,rfl,rfl,B,rfl⟩
     ·have b9:¬(4294967296:Int)≤d:=by omega
      obtain⟨p,S⟩:=exl (d*j)
      have p1:(d:Int)*j=p:=by rw[←S,Int.natCast_mul]
      have pl:p<18446744073709551616:=by
       have h1:d*j≤4294967295*4294967295:=Nat.mul_le_mul (by omega) (by have:=(G.out ()).1;omega)
       omega
      have p2:IntKind.u64.wrap (p:Int)=p:=wuA;obtain⟨t,ht⟩:=exl (r*4294967296+A)
      have tl:t<18446744073709551616:=by have:=(G.out ()).2.2.1;omega
      obtain⟨s,hs⟩:=exl (4294967296*r)
      have t0:4294967296*(r:Int)=s:=by omega
      have t1:IntKind.u64.wrap (s:Int)=s:=wuA
      have t2:(s:Int)+A=t:=by omega
      have t3:IntKind.u64.wrap (t:Int)=t:=wuA
      by_cases hT:t<p
      ·have b8:(t:Int)<p:=by omega
       have l:4294967296≤d∨r*4294967296+A<d*j:=Or.inr (by rw[S,ht];exact hT);obtain⟨V,q⟩:=gs_dec R i j A D d r (HG.out ()) (KQ.out ()).1 (KQ.out ()).2 l;obtain⟨e,H⟩:=exl (d-1);rw[H]at q;obtain⟨f,I⟩:=exl (r+i);rw[I]at q
       have f1:(d:Int)-1=e:=by omega
       have f2:IntKind.u64.wrap (e:Int)=e:=wuA
       have f3:(r:Int)+i=f:=by omega
       have f4:IntKind.u64.wrap (f:Int)=f:=wuA;have J:Hu (_):=fun _=>q
       have HM:Hu (e<d):=fun _=>by omega
       have HE:Hu (e<18446744073709551616):=fun _=>by omega
       by_cases hr:f<4294967296
       ·have r1:¬(4294967296:Int)≤f:=by omega
        have B:Hu (_):=fun _=>hr;clear hr hB l q H I V S ht hT pl tl Y dl Z hs
        go_wp2
        go_roundw
        case rel=>exact⟨e,f,rfl,rfl,B,HE,J,trivial⟩
        case measure=>have:=HM.out ();simp[intOf];omega
       ·have r1:(4294967296:Int)≤f:=by omega
        have B:Hu (Gf R i j A D e):=fun _=>gs_break R i j A D e f (G.out ()).1 q (by omega) (G.out ()).2.2.2;clear hr hB l q H I V S ht hT pl tl Y dl Z hs
        go_wp2
        go_meet
        exact⟨e,_,rfl,rfl,B,rfl⟩
      ·have b8:¬(t:Int)<p:=by omega
       have B:Hu (Gf R i j A D d):=fun _=>gs_stop R i j A D d r (HG.out ()) (by omega) (by rw[S,ht];omega)
       go_wp2
       go_meet
       exact⟨d,_,rfl,rfl,B,rfl⟩
   case rest=>
    obtain⟨d2,v2,rfl,rfl,aD,rfl⟩:=hcut;obtain rfl:d2=D:=af.out d2 (aD.out ());have FQ:=ag.out ();obtain⟨Q,hQ⟩:=exl ((hi*18446744073709551616+lo)/y);rw[hQ]at FQ;have aE:Hu (_):=fun _=>hQ
    go_wp2
    go_ret2
    exact⟨_,by rw[aE.out ()];rfl,0,rfl⟩
end
end Go.Proofs.Ytffhepbppiocbaa