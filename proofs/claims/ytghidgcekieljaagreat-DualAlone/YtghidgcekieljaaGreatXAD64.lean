import Derived.BigRegion
import Derived.Deep.CutBlock
import Derived.Test.YtghidgcekieljaaGreatXALib
import Derived.Test.YtghidgcekieljaaGreatXAEP
import Derived.Test.YtghidgcekieljaaGreatXADig
import Derived.Test.YtghidgcekieljaaGreatXALdS
namespace Go.Proofs.YtghidgcekieljaaGreat
open Go.RowKit Go.Proofs.Tryz
set_option maxRecDepth 100000
set_option maxHeartbeats 8000000
section
theorem lz_any(y:Nat)(h0:9223372036854775808≤y)(h1:y<18446744073709551616)(w:World):
 Calls prog 188 #[.int .u64 (y:Int)] w fun e w'=>e=.returned (.int .i64 0)∧w=w':=by
 have hb:Lib.bitLen ((y:Int)).toNat=64:=by
  rw[Int.toNat_natCast,bl_lib y h1];refine bl_unique y 64 fun m=>⟨fun hm=>Nat.lt_of_lt_of_le h1 (Nat.pow_le_pow_right (n:=2) (by omega) hm),fun hm=>?_⟩
  by_cases hc:64≤m
  ·exact hc
  ·exfalso
   have:2^m≤2^63:=Nat.pow_le_pow_right (by decide) (by omega)
   omega
 have HC:Hid (∀w,Calls prog 86 #[.int .u64 (y:Int)] w fun e w'=>e=.returned (.int .i64 64)∧w'=w):=fun w=>by
  have:=len64 (y:Int) w (by omega) (by omega);rw[hb]at this;exact this
 go_enter func188,ntmps188
 go_wp2_with (go_at_call 86;refine(HC.out _).mono ?_;rintro e w' ⟨rfl,rfl⟩)
 go_ret
 exact⟨rfl,rfl⟩
theorem un21(hi l1 y D R:Nat)(hy:y<18446744073709551616)(hR:R<y)(e1:D=(hi*4294967296+l1)/y)(e2:R=(hi*4294967296+l1)%y):
 IntKind.u64.wrap (IntKind.u64.wrap (IntKind.u64.wrap ((hi:Int)*4294967296)+(l1:Int))-IntKind.u64.wrap ((D:Int)*(y:Int)))=(R:Int):=by
 have h:=Nat.div_add_mod (hi*4294967296+l1) y;rw[←e1,←e2,Nat.mul_comm]at h;have e:(D:Int)*(y:Int)=((D*y:Nat):Int):=(Int.natCast_mul D y).symm;rw[e];generalize D*y=P at *;simp only[IntKind.wrap_u64]
 omega
theorem q_facts(x v1 v0 u y:Nat)(hy:y=v1*4294967296+v0)(h0:0<y)(hx:x<y)(hu:u<4294967296):(x*4294967296+u)/y<4294967296∧(x*4294967296+u)/y*(v1*4294967296+v0)≤x*4294967296+u:=by
 rw[←hy];refine⟨?_,Nat.div_mul_le_self _ _⟩;rw[Nat.div_lt_iff_lt_mul h0]
 omega
theorem q_start(x v1 v0 u y:Nat)(hy:y=v1*4294967296+v0)(h0:0<y)(hu:u<4294967296):(x*4294967296+u)/y*v1≤x:=by
 have h:=Nat.div_mul_le_self (x*4294967296+u) y;generalize (x*4294967296+u)/y=q at *;subst hy
 have e:q*(v1*4294967296+v0)=q*v1*4294967296+q*v0:=by grind
 rw[e]at h
 omega
theorem fin_q(hi l1 l0 lo y q1 R q0:Nat)(hy:0<y)(hl:lo=l1*4294967296+l0)(h1:q1<4294967296)(h0:q0<4294967296)(e1:q1=(hi*4294967296+l1)/y)(eR:R=(hi*4294967296+l1)%y)(e0:q0=(R*4294967296+l0)/y):
 IntKind.u64.wrap (IntKind.u64.wrap ((q1:Int)*4294967296)+(q0:Int))=(((hi*18446744073709551616+lo)/y:Nat):Int):=by
 rw[hl,two_digits hi l1 l0 y q1 q0 R hy e1 eR e0];simp only[IntKind.wrap_u64]
 omega
theorem div64_any(hi lo y:Nat)(h0:9223372036854775808≤y)(h1:y<18446744073709551616)(h2:hi<y)(h3:lo<18446744073709551616)(w:World):
 Calls prog 187 #[.int .u64 (hi:Int),.int .u64 (lo:Int),.int .u64 (y:Int)] w fun e w'=>∃v:Value,e=.returned (.tuple #[.int .u64 (((hi*18446744073709551616+lo)/y:Nat):Int),v])∧∃m,w'=w.drewN m:=by
 have HZ:Hid _:=lz_any y h0 h1
 have y1:¬(y:Int)=0:=by omega
 have y2:¬(y:Int)≤(hi:Int):=by omega
 have y3:((y:Int)==0)=false:=by rw[beq_eq_false_iff_ne];exact y1
 by_cases hz:hi=0
 ·subst hz;obtain⟨Q,hQ⟩:=exl (lo/y)
  have g1:(lo:Int).tdiv (y:Int)=(Q:Int):=by rw[Int.tdiv_eq_ediv_of_nonneg (by omega),←hQ,Int.natCast_ediv]
  have g7:(lo:Int)/(y:Int)=(Q:Int):=by rw[←hQ,Int.natCast_ediv]
  have g8:Q≤lo:=by rw[←hQ];exact Nat.div_le_self _ _
  have g2:IntKind.u64.wrap (Q:Int)=(Q:Int):=wuA
  have HQ:Hu ((0*18446744073709551616+lo)/y=Q):=fun _=>by rw[Nat.zero_mul,Nat.zero_add];exact hQ
  clear hQ h0 h1 h2 h3 g8
  go_enter func187,ntmps187
  go_wp2
  go_big_region
  go_wp2
  go_ret2
  exact⟨_,by rw[HQ.out ()];rfl,1,rfl⟩
 ·have z1:((hi:Int)==0)=false:=by rw[beq_eq_false_iff_ne];omega
  obtain⟨v1,hv1⟩:=exl (y/4294967296);obtain⟨v0,hv0⟩:=exl (y%4294967296);obtain⟨l1,hl1⟩:=exl (lo/4294967296);obtain⟨l0,hl0⟩:=exl (lo%4294967296)
  have m0:bits BinOp.and IntKind.u64 (y:Int) 4294967295=(v0:Int):=by rw[←hv0];exact Mul64.maskN y h1
  have m1:bits BinOp.and IntKind.u64 (lo:Int) 4294967295=(l0:Int):=by rw[←hl0];exact Mul64.maskN lo h3
  have m2:bits BinOp.or IntKind.u64 (hi:Int) 0=(hi:Int):=by have:=bits_or_u64_nat hi 0 (by omega) (by omega);simpa using this
  have c1:(y:Int)/4294967296=(v1:Int):=by omega
  have c2:(lo:Int)/4294967296=(l1:Int):=by omega
  have b1:IntKind.u64.wrap (y:Int)=(y:Int):=wuA;have b2:IntKind.u64.wrap (hi:Int)=(hi:Int):=wuA;have b3:IntKind.u64.wrap (lo:Int)=(lo:Int):=wuA
  have c3:(lo:Int)/18446744073709551616=0:=by omega
  have hy:y=v1*4294967296+v0:=by omega
  have hv1p:2147483648≤v1:=by omega
  have hv1l:v1<4294967296:=by omega
  have n1:¬(v1:Int)=0:=by omega
  have n2:((v1:Int)==0)=false:=by rw[beq_eq_false_iff_ne];omega
  obtain⟨dA,hdA⟩:=exl (hi/v1);obtain⟨rA,hrA⟩:=exl (hi%v1);obtain⟨pA,hpA⟩:=exl (dA*v1);have eA:=Nat.div_add_mod hi v1;rw[hdA,hrA,Nat.mul_comm,hpA]at eA
  have A1:(hi:Int).tdiv (v1:Int)=(dA:Int):=by rw[Int.tdiv_eq_ediv_of_nonneg (by omega),←hdA,Int.natCast_ediv]
  have ldA:dA≤hi:=by rw[←hdA];exact Nat.div_le_self _ _
  have lrA:rA<v1:=by rw[←hrA];exact Nat.mod_lt _ (by omega)
  have A2:IntKind.u64.wrap (dA:Int)=(dA:Int):=wuA
  have A3:(dA:Int)*(v1:Int)=(pA:Int):=by rw[←hpA,Int.natCast_mul]
  have A4:IntKind.u64.wrap (pA:Int)=(pA:Int):=wuA
  have A5:(hi:Int)-(pA:Int)=(rA:Int):=by omega
  have A6:IntKind.u64.wrap (rA:Int)=(rA:Int):=wuA
  have A7:(hi:Int)/(v1:Int)=(dA:Int):=by rw[←hdA,Int.natCast_ediv]
  obtain⟨qA,hqA⟩:=exl ((hi*4294967296+l1)/y);obtain⟨R,hR⟩:=exl ((hi*4294967296+l1)%y);obtain⟨qB,hqB⟩:=exl ((R*4294967296+l0)/y)
  have RL:R<y:=by rw[←hR];exact Nat.mod_lt _ (by omega)
  have KQA:Hu (qA<4294967296∧qA*(v1*4294967296+v0)≤hi*4294967296+l1):=fun _=>by rw[←hqA];exact q_facts hi v1 v0 l1 y hy (by omega) h2 (by omega)
  have KQB:Hu (qB<4294967296∧qB*(v1*4294967296+v0)≤R*4294967296+l0):=fun _=>by rw[←hqB];exact q_facts R v1 v0 l0 y hy (by omega) RL (by omega)
  have KBA:Hu (v0<4294967296∧v1<4294967296∧l1<4294967296∧hi≤v1*4294967296+4294967295):=fun _=>by omega
  have KBB:Hu (v0<4294967296∧v1<4294967296∧l0<4294967296∧R≤v1*4294967296+4294967295):=fun _=>by omega
  have HGA:Hu (Gs hi v1 qA dA rA):=fun _=>by
   rw[←hdA,←hrA];exact gs_start hi v1 qA (by omega) (by rw[←hqA];exact q_start hi v1 v0 l1 y hy (by omega) (by omega))
  have FA:Hu (rA<4294967296∧dA<18446744073709551616):=fun _=>by omega
  have TA:∀d:Nat,Gf hi v1 v0 l1 qA d→d=qA:=fun d h=>by rw[←hqA]at h ⊢;exact gf_two hi v1 v0 l1 y d hy (by omega) h
  have TB:∀d:Nat,Gf R v1 v0 l0 qB d→d=qB:=fun d h=>by rw[←hqB]at h ⊢;exact gf_two R v1 v0 l0 y d hy (by omega) h
  have HTA:Hid _:=TA;have HTB:Hid _:=TB;have U21:=un21 hi l1 y qA R h1 RL hqA.symm hR.symm;have FQ:=fin_q hi l1 l0 lo y qA R qB (by omega) (by omega) (KQA.out ()).1 (KQB.out ()).1 hqA.symm hR.symm hqB.symm;have HFQ:Hu (_):=fun _=>FQ;obtain⟨dB,hdB⟩:=exl (R/v1);obtain⟨rB,hrB⟩:=exl (R%v1);obtain⟨pB,hpB⟩:=exl (dB*v1);have eB:=Nat.div_add_mod R v1;rw[hdB,hrB,Nat.mul_comm,hpB]at eB
  have B1:(R:Int).tdiv (v1:Int)=(dB:Int):=by rw[Int.tdiv_eq_ediv_of_nonneg (by omega),←hdB,Int.natCast_ediv]
  have ldB:dB≤R:=by rw[←hdB];exact Nat.div_le_self _ _
  have lrB:rB<v1:=by rw[←hrB];exact Nat.mod_lt _ (by omega)
  have B2:IntKind.u64.wrap (dB:Int)=(dB:Int):=wuA
  have B3:(dB:Int)*(v1:Int)=(pB:Int):=by rw[←hpB,Int.natCast_mul]
  have B4:IntKind.u64.wrap (pB:Int)=(pB:Int):=wuA
  have B5:(R:Int)-(pB:Int)=(rB:Int):=by omega
  have B6:IntKind.u64.wrap (rB:Int)=(rB:Int):=wuA
  have B7:(R:Int)/(v1:Int)=(dB:Int):=by rw[←hdB,Int.natCast_ediv]
  have HGB:Hu (Gs R v1 qB dB rB):=fun _=>by
   rw[←hdB,←hrB];exact gs_start R v1 qB (by omega) (by rw[←hqB];exact q_start R v1 v0 l0 y hy (by omega) (by omega))
  have FB:Hu (rB<4294967296∧dB<18446744073709551616):=fun _=>by omega
  clear TA TB FQ hqA hR hqB RL hdA hrA hpA eA ldA lrA hdB hrB hpB eB ldB lrB hy hv1p hv1l hv1 hv0 hl1 hl0 h0 h1 h2 h3 hz
  go_enter func187,ntmps187
  go_upto_block 0 with (go_at_call 188;refine(HZ.out _).mono ?_;rintro e w' ⟨rfl,rfl⟩)
  go_cut [15,16] from 67 to 85 (fun a b wx=>∃(d:Nat) (v:Value),a=.int .u64 (d:Int)∧b=v∧Hu (Gf hi v1 v0 l1 qA d)∧w=wx)
  case first=>
   have KQ:=KQA;have KB:=KBA
   go_wp2_with fail
   go_loopw [15,16] (fun a b wr=>∃d r:Nat,a=.int .u64 (d:Int)∧b=.int .u64 (r:Int)∧Hu (r<4294967296)∧Hu (d<18446744073709551616)∧Hu (Gs hi v1 qA d r)∧w=wr) (fun a _ _=>(intOf a).toNat)
   case atStart=>exact⟨dA,rA,rfl,rfl,fun _=>(FA.out ()).1,fun _=>(FA.out ()).2,HGA,rfl⟩
   case round=>
    clear HGA FA A1 A2 A3 A4 A5 A6 A7 B1 B2 B3 B4 B5 B6 B7 U21 HGB FB HTA HTB HFQ;obtain⟨d,r,rfl,rfl,HR,HL,HG,rfl⟩:=hrel;have rl:=HR.out ();have dl:=HL.out ();have vl:=(KB.out ()).2.1
    by_cases hB:4294967296≤d
    ·have b9:(4294967296:Int)≤(d:Int):=by omega
     have HTT:4294967296≤d∨r*4294967296+l1<d*v0:=Or.inl hB;obtain⟨dp,GD⟩:=gs_dec hi v1 v0 l1 qA d r (HG.out ()) (KQ.out ()).1 (KQ.out ()).2 HTT;obtain⟨e,he⟩:=exl (d-1);rw[he]at GD;obtain⟨f,hf⟩:=exl (r+v1);rw[hf]at GD
     have f1:(d:Int)-1=(e:Int):=by omega
     have f2:IntKind.u64.wrap (e:Int)=(e:Int):=wuA
     have f3:(r:Int)+(v1:Int)=(f:Int):=by omega
     have f4:IntKind.u64.wrap (f:Int)=(f:Int):=wuA;have HGD:Hu (_):=fun _=>GD
     have HM:Hu (e<d):=fun _=>by omega
     have HE:Hu (e<18446744073709551616):=fun _=>by omega
     by_cases hr:f<4294967296
     ·have r1:¬(4294967296:Int)≤(f:Int):=by omega
      have HF:Hu (_):=fun _=>hr;clear hr hB HTT GD he hf dp rl dl vl
      go_wp2
      go_roundw
      case rel=>exact⟨e,f,rfl,rfl,HF,HE,HGD,trivial⟩
      case measure=>have:=HM.out ();simp[intOf];omega
     ·have r1:(4294967296:Int)≤(f:Int):=by omega
      have HF:Hu (Gf hi v1 v0 l1 qA e):=fun _=>gs_break hi v1 v0 l1 qA e f (KB.out ()).1 GD (by omega) (KB.out ()).2.2.2;clear hr hB HTT GD he hf dp rl dl vl
      go_wp2
      go_meet
      exact⟨e,_,rfl,rfl,HF,rfl⟩
    ·have b9:¬(4294967296:Int)≤(d:Int):=by omega
     obtain⟨p,hp⟩:=exl (d*v0)
     have p1:(d:Int)*(v0:Int)=(p:Int):=by rw[←hp,Int.natCast_mul]
     have pl:p<18446744073709551616:=by
      have h1:d*v0≤4294967295*4294967295:=Nat.mul_le_mul (by omega) (by have:=(KB.out ()).1;omega)
      omega
     have p2:IntKind.u64.wrap (p:Int)=(p:Int):=wuA;obtain⟨t,ht⟩:=exl (r*4294967296+l1)
     have tl:t<18446744073709551616:=by have:=(KB.out ()).2.2.1;omega
     obtain⟨s,hs⟩:=exl (4294967296*r)
     have t0:4294967296*(r:Int)=(s:Int):=by omega
     have t1:IntKind.u64.wrap (s:Int)=(s:Int):=wuA
     have t2:(s:Int)+(l1:Int)=(t:Int):=by omega
     have t3:IntKind.u64.wrap (t:Int)=(t:Int):=wuA
     by_cases hT:t<p
     ·have b8:(t:Int)<(p:Int):=by omega
      have HTT:4294967296≤d∨r*4294967296+l1<d*v0:=Or.inr (by rw[hp,ht];exact hT);obtain⟨dp,GD⟩:=gs_dec hi v1 v0 l1 qA d r (HG.out ()) (KQ.out ()).1 (KQ.out ()).2 HTT;obtain⟨e,he⟩:=exl (d-1);rw[he]at GD;obtain⟨f,hf⟩:=exl (r+v1);rw[hf]at GD
      have f1:(d:Int)-1=(e:Int):=by omega
      have f2:IntKind.u64.wrap (e:Int)=(e:Int):=wuA
      have f3:(r:Int)+(v1:Int)=(f:Int):=by omega
      have f4:IntKind.u64.wrap (f:Int)=(f:Int):=wuA;have HGD:Hu (_):=fun _=>GD
      have HM:Hu (e<d):=fun _=>by omega
      have HE:Hu (e<18446744073709551616):=fun _=>by omega
      by_cases hr:f<4294967296
      ·have r1:¬(4294967296:Int)≤(f:Int):=by omega
       have HF:Hu (_):=fun _=>hr;clear hr hB HTT GD he hf dp hp ht hT pl tl rl dl vl hs
       go_wp2
       go_roundw
       case rel=>exact⟨e,f,rfl,rfl,HF,HE,HGD,trivial⟩
       case measure=>have:=HM.out ();simp[intOf];omega
      ·have r1:(4294967296:Int)≤(f:Int):=by omega
       have HF:Hu (Gf hi v1 v0 l1 qA e):=fun _=>gs_break hi v1 v0 l1 qA e f (KB.out ()).1 GD (by omega) (KB.out ()).2.2.2;clear hr hB HTT GD he hf dp hp ht hT pl tl rl dl vl hs
       go_wp2
       go_meet
       exact⟨e,_,rfl,rfl,HF,rfl⟩
     ·have b8:¬(t:Int)<(p:Int):=by omega
      have HF:Hu (Gf hi v1 v0 l1 qA d):=fun _=>gs_stop hi v1 v0 l1 qA d r (HG.out ()) (by omega) (by rw[hp,ht];omega);clear hB hp ht hT pl tl rl dl vl hs
      go_wp2
      go_meet
      exact⟨d,_,rfl,rfl,HF,rfl⟩
  case rest=>
   obtain⟨d,v,rfl,rfl,HF,rfl⟩:=hcut;obtain rfl:d=qA:=HTA.out d (HF.out ());clear HF HGA FA A1 A2 A3 A4 A5 A6 A7
   go_upto_block 2 with fail
   go_cut [18,16] from 102 to 120 (fun a b wx=>∃(d:Nat) (v:Value),a=.int .u64 (d:Int)∧b=v∧Hu (Gf R v1 v0 l0 qB d)∧w=wx)
   case first=>
    have KQ:=KQB;have KB:=KBB
    go_wp2_with fail
    go_loopw [18,16] (fun a b wr=>∃d r:Nat,a=.int .u64 (d:Int)∧b=.int .u64 (r:Int)∧Hu (r<4294967296)∧Hu (d<18446744073709551616)∧Hu (Gs R v1 qB d r)∧w=wr) (fun a _ _=>(intOf a).toNat)
    case atStart=>exact⟨dB,rB,rfl,rfl,fun _=>(FB.out ()).1,fun _=>(FB.out ()).2,HGB,rfl⟩
    case round=>
     clear B1 B2 B3 B4 B5 B6 B7 U21 HGB FB HTA HTB HFQ;obtain⟨d,r,rfl,rfl,HR,HL,HG,rfl⟩:=hrel;have rl:=HR.out ();have dl:=HL.out ();have vl:=(KB.out ()).2.1
     by_cases hB:4294967296≤d
     ·have b9:(4294967296:Int)≤(d:Int):=by omega
      have HTT:4294967296≤d∨r*4294967296+l0<d*v0:=Or.inl hB;obtain⟨dp,GD⟩:=gs_dec R v1 v0 l0 qB d r (HG.out ()) (KQ.out ()).1 (KQ.out ()).2 HTT;obtain⟨e,he⟩:=exl (d-1);rw[he]at GD;obtain⟨f,hf⟩:=exl (r+v1);rw[hf]at GD
      have f1:(d:Int)-1=(e:Int):=by omega
      have f2:IntKind.u64.wrap (e:Int)=(e:Int):=wuA
      have f3:(r:Int)+(v1:Int)=(f:Int):=by omega
      have f4:IntKind.u64.wrap (f:Int)=(f:Int):=wuA;have HGD:Hu (_):=fun _=>GD
      have HM:Hu (e<d):=fun _=>by omega
      have HE:Hu (e<18446744073709551616):=fun _=>by omega
      by_cases hr:f<4294967296
      ·have r1:¬(4294967296:Int)≤(f:Int):=by omega
       have HF:Hu (_):=fun _=>hr;clear hr hB HTT GD he hf dp rl dl vl
       go_wp2
       go_roundw
       case rel=>exact⟨e,f,rfl,rfl,HF,HE,HGD,trivial⟩
       case measure=>have:=HM.out ();simp[intOf];omega
      ·have r1:(4294967296:Int)≤(f:Int):=by omega
       have HF:Hu (Gf R v1 v0 l0 qB e):=fun _=>gs_break R v1 v0 l0 qB e f (KB.out ()).1 GD (by omega) (KB.out ()).2.2.2;clear hr hB HTT GD he hf dp rl dl vl
       go_wp2
       go_meet
       exact⟨e,_,rfl,rfl,HF,rfl⟩
     ·have b9:¬(4294967296:Int)≤(d:Int):=by omega
      obtain⟨p,hp⟩:=exl (d*v0)
      have p1:(d:Int)*(v0:Int)=(p:Int):=by rw[←hp,Int.natCast_mul]
      have pl:p<18446744073709551616:=by
       have h1:d*v0≤4294967295*4294967295:=Nat.mul_le_mul (by omega) (by have:=(KB.out ()).1;omega)
       omega
      have p2:IntKind.u64.wrap (p:Int)=(p:Int):=wuA;obtain⟨t,ht⟩:=exl (r*4294967296+l0)
      have tl:t<18446744073709551616:=by have:=(KB.out ()).2.2.1;omega
      obtain⟨s,hs⟩:=exl (4294967296*r)
      have t0:4294967296*(r:Int)=(s:Int):=by omega
      have t1:IntKind.u64.wrap (s:Int)=(s:Int):=wuA
      have t2:(s:Int)+(l0:Int)=(t:Int):=by omega
      have t3:IntKind.u64.wrap (t:Int)=(t:Int):=wuA
      by_cases hT:t<p
      ·have b8:(t:Int)<(p:Int):=by omega
       have HTT:4294967296≤d∨r*4294967296+l0<d*v0:=Or.inr (by rw[hp,ht];exact hT);obtain⟨dp,GD⟩:=gs_dec R v1 v0 l0 qB d r (HG.out ()) (KQ.out ()).1 (KQ.out ()).2 HTT;obtain⟨e,he⟩:=exl (d-1);rw[he]at GD;obtain⟨f,hf⟩:=exl (r+v1);rw[hf]at GD
       have f1:(d:Int)-1=(e:Int):=by omega
       have f2:IntKind.u64.wrap (e:Int)=(e:Int):=wuA
       have f3:(r:Int)+(v1:Int)=(f:Int):=by omega
       have f4:IntKind.u64.wrap (f:Int)=(f:Int):=wuA;have HGD:Hu (_):=fun _=>GD
       have HM:Hu (e<d):=fun _=>by omega
       have HE:Hu (e<18446744073709551616):=fun _=>by omega
       by_cases hr:f<4294967296
       ·have r1:¬(4294967296:Int)≤(f:Int):=by omega
        have HF:Hu (_):=fun _=>hr;clear hr hB HTT GD he hf dp hp ht hT pl tl rl dl vl hs
        go_wp2
        go_roundw
        case rel=>exact⟨e,f,rfl,rfl,HF,HE,HGD,trivial⟩
        case measure=>have:=HM.out ();simp[intOf];omega
       ·have r1:(4294967296:Int)≤(f:Int):=by omega
        have HF:Hu (Gf R v1 v0 l0 qB e):=fun _=>gs_break R v1 v0 l0 qB e f (KB.out ()).1 GD (by omega) (KB.out ()).2.2.2;clear hr hB HTT GD he hf dp hp ht hT pl tl rl dl vl hs
        go_wp2
        go_meet
        exact⟨e,_,rfl,rfl,HF,rfl⟩
      ·have b8:¬(t:Int)<(p:Int):=by omega
       have HF:Hu (Gf R v1 v0 l0 qB d):=fun _=>gs_stop R v1 v0 l0 qB d r (HG.out ()) (by omega) (by rw[hp,ht];omega)
       go_wp2
       go_meet
       exact⟨d,_,rfl,rfl,HF,rfl⟩
   case rest=>
    obtain⟨d2,v2,rfl,rfl,HF2,rfl⟩:=hcut;obtain rfl:d2=qB:=HTB.out d2 (HF2.out ());have FQ:=HFQ.out ();obtain⟨Q,hQ⟩:=exl ((hi*18446744073709551616+lo)/y);rw[hQ]at FQ;have HQQ:Hu (_):=fun _=>hQ
    go_wp2
    go_ret2
    exact⟨_,by rw[HQQ.out ()];rfl,0,rfl⟩
end
end Go.Proofs.YtghidgcekieljaaGreat