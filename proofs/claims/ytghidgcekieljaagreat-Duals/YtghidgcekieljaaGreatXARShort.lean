import Derived.BigRegion
import Derived.Deep.CutBlock
import Derived.Test.YtghidgcekieljaaGreatXARCmp
import Derived.Test.YtghidgcekieljaaGreatXAPC
namespace Go.Proofs.YtghidgcekieljaaGreat
open Go.RowKit Go.Proofs.Tryz
set_option maxRecDepth 100000
set_option maxHeartbeats 8000000
section
attribute [local go_sem ↓] uz1
attribute [local go_sem] uz2
section
attribute [local go_sem ↓] uz3
attribute [local go_sem] uz4 ones_nw
theorem cell_other(w:World)(b c i:Nat)(d:Array Value)(h:¬b=c):(setBlk w b d).cell? ⟨c,i,none⟩=w.cell? ⟨c,i,none⟩:=by
 rw[cell_blk,cell_blk,blk_other _ _ _ _ h]
theorem or_digits(h l:Nat)(hh:h<4294967296)(hl:l<4294967296):bits BinOp.or IntKind.u64 ((h*4294967296:Nat):Int) (l:Int)=((h*4294967296+l:Nat):Int):=by
 rw[bits_or_u64_nat (h*4294967296) l (by omega) (by omega)];have e2:=Nat.two_pow_add_eq_or_of_lt (i:=32) hl h;rw[show h*4294967296=2^32*h from Nat.mul_comm _ _,←e2]
attribute [local go_sem] cell_other
def Stp(w:World)(b L U T:Nat)(e:Ending)(w':World):Prop:=∃d Z:Nat,e=.returned (.int .u64 (d:Int))∧d<4294967296∧Z+d*T=U∧Z<T∧Gr (setBlk w b (nd L Z)) w'
theorem step_any(L U V j n b c cu cv:Nat)(w:World)(hL:L≤100000)(hj:j+(n+2)<L)(hub:blk w b=nd L U)(hf:frz w b=(0,0))(hbc:¬b=c)(hcs:∀i,i<n+2→(blk w c)[i]? = some (.int .u32 ((dg V i:Nat):Int)))(hV:V<pq (n+2))(hT:2147483648≤dg V (n+1))(hU:U<V*pq (j+1)):
 Calls prog 63 #[.slice (some ⟨b,0,none⟩) L cu,.slice (some ⟨c,0,none⟩) (n+2) cv,.int .i64 (j:Int)] w (Stp w b L U (V*pq j)):=by
 obtain⟨hUR,hq1,hq2,hq3,hq4⟩:=step_pre U V n j hV (by omega) hU;have hV0:=hV;have hUR0:=hUR
 have hT0:0<dg V (n+1):=by omega
 have hR:j+(n+2+1)=j+n+3:=by omega
 obtain⟨K,hK⟩:=exl (n+2);obtain⟨K1,hK1⟩:=exl (n+1);obtain⟨J0,hJ0⟩:=exl (j+n+2);obtain⟨J1,hJ1⟩:=exl (j+n+1);obtain⟨J2,hJ2⟩:=exl (j+n);rw[←hR]at hUR;rw[hK]at hUR hcs hV hj ⊢;rw[hK1]at hT hq2 hq3 hq4;rw[hJ0]at hq2 hq3 hq4;rw[hJ1]at hq2 hq3 hq4;rw[hJ2]at hq3;obtain⟨uH,huH⟩:=exl (dg U J0);obtain⟨uM,huM⟩:=exl (dg U J1);obtain⟨uL,huL⟩:=exl (dg U J2);obtain⟨v1,hv1⟩:=exl (dg V K1);obtain⟨v0,hv0⟩:=exl (dg V n);have lH:=dg_lt U J0;have lM:=dg_lt U J1;have lL:=dg_lt U J2;have l1:=dg_lt V K1;have l0:=dg_lt V n;rw[huH]at lH hq2 hq3 hq4;rw[huM]at lM hq2 hq3 hq4;rw[huL]at lL hq3;rw[hv1]at l1 hT hq2 hq3 hq4;rw[hv0]at l0 hq3;obtain⟨x,hx⟩:=exl (uH*4294967296+uM);rw[hx]at hq2 hq3 hq4;have hup:∀d,d<4294967296→d*(v1*4294967296+v0)≤x*4294967296+uL→(d-1)*(V*pq j)≤U:=fun d h1 h2=>step_up U V n j d hV0 hT0 hUR0 h1 (by rw[hK1,hJ0,hJ1,hJ2,huH,huM,huL,hv1,hv0,hx];exact h2);obtain⟨q,hq⟩:=exl (U/(V*pq j));rw[hq]at hq1 hq2 hq3
 have hpos:0<V*pq j:=by
  by_cases h:0<V*pq j
  ·exact h
  ·rw[pq_succ,←Nat.mul_assoc,show V*pq j=0 by omega,Nat.zero_mul]at hU;omega
 have hsz:0<(blk w b).size:=by rw[hub,nd_size];omega
 have cH:∀z,(w.drewN z).cell? ⟨b,J0,none⟩=some (.int .u32 (uH:Int)):=fun z=>by show w.cell? _=_;rw[cell_blk,hub,nd_get L U J0 (by omega),huH]
 have cM:∀z,(w.drewN z).cell? ⟨b,J1,none⟩=some (.int .u32 (uM:Int)):=fun z=>by show w.cell? _=_;rw[cell_blk,hub,nd_get L U J1 (by omega),huM]
 have cL:∀z,(w.drewN z).cell? ⟨b,J2,none⟩=some (.int .u32 (uL:Int)):=fun z=>by show w.cell? _=_;rw[cell_blk,hub,nd_get L U J2 (by omega),huL]
 have cv1:∀z,(w.drewN z).cell? ⟨c,K1,none⟩=some (.int .u32 (v1:Int)):=fun z=>by show w.cell? _=_;rw[cell_blk,hcs K1 (by omega),hv1]
 have cv0:∀z,(w.drewN z).cell? ⟨c,n,none⟩=some (.int .u32 (v0:Int)):=fun z=>by show w.cell? _=_;rw[cell_blk,hcs n (by omega),hv0]
 have cH':=cH 0;have cM':=cM 0;have cv1':=cv1 0;replace cH':w.cell? ⟨b,J0,none⟩=some (.int .u32 (uH:Int)):=cH';replace cM':w.cell? ⟨b,J1,none⟩=some (.int .u32 (uM:Int)):=cM';replace cv1':w.cell? ⟨c,K1,none⟩=some (.int .u32 (v1:Int)):=cv1';obtain⟨hs,hhs⟩:=exl (uH*4294967296);obtain⟨dA,hdA⟩:=exl (x/v1);obtain⟨rA,hrA⟩:=exl (x%v1);have a1:IntKind.u64.wrap (uH:Int)=(uH:Int):=wuA;have a2:IntKind.u64.wrap (uM:Int)=(uM:Int):=wuA;have a3:IntKind.u64.wrap (uL:Int)=(uL:Int):=wuA;have a4:IntKind.u64.wrap (v1:Int)=(v1:Int):=wuA;have a5:IntKind.u64.wrap (v0:Int)=(v0:Int):=wuA
 have a6:(uH:Int)*4294967296=(hs:Int):=by omega
 have a7:IntKind.u64.wrap (hs:Int)=(hs:Int):=wuA
 have a8:bits BinOp.or IntKind.u64 (hs:Int) (uM:Int)=(x:Int):=by rw[←hx,←hhs];exact or_digits uH uM lH lM
 have ldA:dA≤x:=by rw[←hdA];exact Nat.div_le_self _ _
 have lrA:rA<v1:=by rw[←hrA];exact Nat.mod_lt _ (by omega)
 have b1:(x:Int).tdiv (v1:Int)=(dA:Int):=by rw[Int.tdiv_eq_ediv_of_nonneg (by omega),←hdA,Int.natCast_ediv]
 have b2:IntKind.u64.wrap (dA:Int)=(dA:Int):=wuA
 have b3:(x:Int).tmod (v1:Int)=(rA:Int):=by rw[Int.tmod_eq_emod_of_nonneg (by omega),←hrA,Int.natCast_emod]
 have b4:IntKind.u64.wrap (rA:Int)=(rA:Int):=wuA
 have b5:(x:Int)/(v1:Int)=(dA:Int):=by rw[←hdA,Int.natCast_ediv]
 have b6:(x:Int)%(v1:Int)=(rA:Int):=by rw[←hrA,Int.natCast_emod]
 have n1:¬(v1:Int)=0:=by omega
 have n2:((v1:Int)==0)=false:=by rw[beq_eq_false_iff_ne];omega
 have e1:(K:Int)-1=(K1:Int):=by omega
 have e2:(K:Int)-2=(n:Int):=by omega
 have e3:(j:Int)+(K:Int)=(J0:Int):=by omega
 have e4:(J0:Int)-1=(J1:Int):=by omega
 have e5:(J0:Int)-2=(J2:Int):=by omega
 have i0:(J0:Int)<(L:Int):=by omega
 have i1:(J1:Int)<(L:Int):=by omega
 have i2:(J2:Int)<(L:Int):=by omega
 have i3:(K1:Int)<(K:Int):=by omega
 have i4:(n:Int)<(K:Int):=by omega
 have m1:(L:Int)≤100000:=by omega
 have m2:(K:Int)≤100000:=by omega
 have m3:(j:Int)≤100000:=by omega
 have KQ:Hu (q<4294967296∧q*(v1*4294967296+v0)≤x*4294967296+uL):=fun _=>⟨hq1,hq3⟩;have KB:Hu (v0<4294967296∧v1<4294967296∧uL<4294967296∧x≤v1*4294967296+4294967295):=fun _=>⟨l0,l1,lL,hq4⟩
 have HGA:Hu (Gs x v1 q dA rA):=fun _=>by rw[←hdA,←hrA];exact gs_start x v1 q (by omega) hq2
 have FA:Hu (rA<4294967296∧dA<18446744073709551616):=fun _=>by omega
 have HUP:Hid _:=hup;have HQ:Hu (U/(V*pq j)=q∧0<V*pq j∧U<pq (j+(K+1))∧V<pq K∧J0=j+K):=fun _=>⟨hq,hpos,hUR,hV,by omega⟩
 have HCS:Hid (∀i,i<K→w.cell? ⟨c,i,none⟩=some (.int .u32 ((dg V i:Nat):Int))):=fun i hi=>by rw[cell_blk];exact hcs i hi
 have HKL:Hu (_):=fun _=>hj;have HSB:Hu (setBlk w b (nd L U)=w):=fun _=>setBlk_self w b _ hub;clear hV0 hUR0 hT0 hup hq1 hq2 hq3 hq4 hUR hV hT hU hq hpos hub hcs hR hK hK1 hJ0 hJ1 hJ2 huH huM huL hv1 hv0 lH lM lL l1 l0 hx hhs hdA hrA ldA lrA hL hj
 go_enter func63,ntmps63
 go_wp2_with fail
 go_quiet (fail)
 go_wp2_with fail
 go_quiet (fail)
 go_upto_block 0 with fail
 go_cut [9,10] from 54 to 89 (fun a r wx=>∃(d z:Nat) (v:Value),a=.int .u64 (d:Int)∧r=v∧Hu (Gf x v1 v0 uL q d)∧wx=w.drewN z)
 case first=>
  go_wp2_with fail
  go_loopw [9,10] (fun a b wr=>∃d r z:Nat,a=.int .u64 (d:Int)∧b=.int .u64 (r:Int)∧Hu (r<4294967296)∧Hu (d<18446744073709551616)∧Hu (Gs x v1 q d r)∧wr=w.drewN z) (fun a _ _=>(intOf a).toNat)
  case atStart=>exact⟨dA,rA,_,rfl,rfl,fun _=>(FA.out ()).1,fun _=>(FA.out ()).2,HGA,by first|rfl|exact World.drewN_drewN _ _ _⟩
  case round=>
   clear HGA FA a6 a7 a8 b1 b2 b3 b4 b5 b6 HUP HQ HCS HSB cH' cM' cv1';obtain⟨d,r,z,rfl,rfl,HR,HL,HG,rfl⟩:=hrel;have rl:=HR.out ();have dl:=HL.out ();have vl:=(KB.out ()).2.1
   by_cases hB:4294967296≤d
   ·have b9:(4294967296:Int)≤(d:Int):=by omega
    have HTT:4294967296≤d∨r*4294967296+uL<d*v0:=Or.inl hB;obtain⟨dp,GD⟩:=gs_dec x v1 v0 uL q d r (HG.out ()) (KQ.out ()).1 (KQ.out ()).2 HTT;obtain⟨e,he⟩:=exl (d-1);rw[he]at GD;obtain⟨f,hf⟩:=exl (r+v1);rw[hf]at GD
    have f1:(d:Int)-1=(e:Int):=by omega
    have f2:IntKind.u64.wrap (e:Int)=(e:Int):=wuA
    have f3:(r:Int)+(v1:Int)=(f:Int):=by omega
    have f4:IntKind.u64.wrap (f:Int)=(f:Int):=wuA;have HGD:Hu (_):=fun _=>GD
    have HM:Hu (e<d):=fun _=>by omega
    have HE:Hu (e<18446744073709551616):=fun _=>by omega
    by_cases hr:f<4294967296
    ·have r1:(f:Int)<4294967296:=by omega
     have r2:decide ((4294967296:Int)≤(f:Int))=false:=decide_eq_false (by omega);have HF:Hu (_):=fun _=>hr;clear hr hB HTT GD he hf dp rl dl vl
     go_wp2_with fail
     go_big_region
     go_wp2_with fail
     go_roundw
     case rel=>exact⟨e,f,_,rfl,rfl,HF,HE,HGD,rfl⟩
     case measure=>have:=HM.out ();simp[intOf];omega
    ·have r1:(4294967296:Int)≤(f:Int):=by omega
     have r2:=decide_eq_true r1;have HF:Hu (Gf x v1 v0 uL q e):=fun _=>gs_break x v1 v0 uL q e f (KB.out ()).1 GD (by omega) (KB.out ()).2.2.2;clear hr hB HTT GD he hf dp rl dl vl
     go_wp2_with fail
     go_big_region
     go_wp2_with fail
     go_meet
     exact⟨e,_,_,rfl,rfl,HF,rfl⟩
   ·have b9:(d:Int)<4294967296:=by omega
    have b7:decide ((4294967296:Int)≤(d:Int))=false:=decide_eq_false (by omega);obtain⟨p,hp⟩:=exl (d*v0)
    have p1:(d:Int)*(v0:Int)=(p:Int):=by rw[←hp,Int.natCast_mul]
    have pl:p<18446744073709551616:=by
     have h1:d*v0≤4294967295*4294967295:=Nat.mul_le_mul (by omega) (by have:=(KB.out ()).1;omega)
     omega
    have p2:IntKind.u64.wrap (p:Int)=(p:Int):=wuA;obtain⟨t,ht⟩:=exl (r*4294967296+uL);have ull:=(KB.out ()).2.2.1
    have tl:t<18446744073709551616:=by omega
    obtain⟨s,hs⟩:=exl (r*4294967296)
    have t0:(r:Int)*4294967296=(s:Int):=by omega
    have t1:IntKind.u64.wrap (s:Int)=(s:Int):=wuA
    have t2:bits BinOp.or IntKind.u64 (s:Int) (uL:Int)=(t:Int):=by rw[←ht,←hs];exact or_digits r uL rl ull
    by_cases hT:t<p
    ·have b8:(t:Int)<(p:Int):=by omega
     have b6:decide ((t:Int)<(p:Int))=true:=decide_eq_true b8;have HTT:4294967296≤d∨r*4294967296+uL<d*v0:=Or.inr (by rw[hp,ht];exact hT);obtain⟨dp,GD⟩:=gs_dec x v1 v0 uL q d r (HG.out ()) (KQ.out ()).1 (KQ.out ()).2 HTT;obtain⟨e,he⟩:=exl (d-1);rw[he]at GD;obtain⟨f,hf⟩:=exl (r+v1);rw[hf]at GD
     have f1:(d:Int)-1=(e:Int):=by omega
     have f2:IntKind.u64.wrap (e:Int)=(e:Int):=wuA
     have f3:(r:Int)+(v1:Int)=(f:Int):=by omega
     have f4:IntKind.u64.wrap (f:Int)=(f:Int):=wuA;have HGD:Hu (_):=fun _=>GD
     have HM:Hu (e<d):=fun _=>by omega
     have HE:Hu (e<18446744073709551616):=fun _=>by omega
     by_cases hr:f<4294967296
     ·have r1:(f:Int)<4294967296:=by omega
      have r2:decide ((4294967296:Int)≤(f:Int))=false:=decide_eq_false (by omega);have HF:Hu (_):=fun _=>hr;clear hr hB HTT GD he hf dp hp ht hT pl tl rl dl vl hs ull
      go_wp2_with fail
      go_big_region
      go_wp2_with fail
      go_roundw
      case rel=>exact⟨e,f,_,rfl,rfl,HF,HE,HGD,rfl⟩
      case measure=>have:=HM.out ();simp[intOf];omega
     ·have r1:(4294967296:Int)≤(f:Int):=by omega
      have r2:=decide_eq_true r1;have HF:Hu (Gf x v1 v0 uL q e):=fun _=>gs_break x v1 v0 uL q e f (KB.out ()).1 GD (by omega) (KB.out ()).2.2.2;clear hr hB HTT GD he hf dp hp ht hT pl tl rl dl vl hs ull
      go_wp2_with fail
      go_big_region
      go_wp2_with fail
      go_meet
      exact⟨e,_,_,rfl,rfl,HF,rfl⟩
    ·have b8:(p:Int)≤(t:Int):=by omega
     have b6:=decide_eq_false (by omega);have HF:Hu (Gf x v1 v0 uL q d):=fun _=>gs_stop x v1 v0 uL q d r (HG.out ()) (by omega) (by rw[hp,ht];omega);clear hB hp ht hT pl tl rl dl vl hs ull
     go_wp2_with fail
     go_big_region
     clear b7 b9 p1 p2 t0 t1 t2 cH cM cL cv1 cv0 hf hbc hsz a1 a2 a3 a4 a5 n1 n2 e1 e2 e3 e4 e5 i0 i1 i2 i3 i4 m1 m2 m3
     go_wp2
     go_meet
     exact⟨d,_,_,rfl,rfl,HF,rfl⟩
 case rest=>
  obtain⟨d,z,v,rfl,rfl,HF,rfl⟩:=hcut;obtain⟨hqd,hdB,hdx⟩:=HF.out ();have HD:Hu (q≤d∧d<4294967296∧(d-1)*(V*pq j)≤U):=fun _=>⟨hqd,hdB,HUP.out d hdB hdx⟩;clear HF HUP HGA FA KQ KB a1 a2 a3 a4 a5 a6 a7 a8 b1 b2 b3 b4 b5 b6 n1 n2 e1 e2 e4 e5 i1 i2 i3 i4 cH cM cL cv1 cv0 cH' cM' cv1' hqd hdB hdx
  go_wp2_with fail
  go_loopw [11,12,13] (fun ca ba ia wr=>∃i cc bb Z:Nat,i≤K∧ia=.int .i64 (i:Int)∧ca=.int .u64 (cc:Int)∧ba=.int .u64 (bb:Int)∧Hu (cc<4294967296∧bb≤1∧Z<pq (j+(K+1))∧Z+d*(V%pq i)*pq j=U+(cc+bb)*pq (j+i))∧wr=(setBlk w b (nd L Z)).drewN z) (fun _ _ ia _=>K-(intOf ia).toNat)
  case atStart=>exact⟨0,0,0,U,by omega,rfl,rfl,rfl,fun _=>⟨by omega,by omega,(HQ.out ()).2.2.1,by simp[pq_zero,Nat.mod_one]⟩,by rw[HSB.out ()]⟩
  case round=>
   obtain⟨i,cc,bb,Z,hi,rfl,rfl,rfl,HI,rfl⟩:=hrel;obtain⟨hcl,hbl,hZl,hZe⟩:=HI.out ();have hKL:=HKL.out ();have hdB:=(HD.out ()).2.1
   by_cases hlt:i<K
   ·have q0:(0:Int)≤(i:Int):=by omega
    have q1:(i:Int)<(K:Int):=by omega
    obtain⟨m,hm⟩:=exl (i+j)
    have q2:(i:Int)+(j:Int)=(m:Int):=by omega
    have q3:(m:Int)<(L:Int):=by omega
    have gv:=HCS.out i hlt;have gZ:=nd_get L Z m (by omega);obtain⟨vi,hvi⟩:=exl (dg V i);obtain⟨xx,hxx⟩:=exl (dg Z m);have lv:=dg_lt V i;have lx:=dg_lt Z m;rw[hvi]at gv lv;rw[hxx]at gZ lx;obtain⟨P1,hP1⟩:=exl (d*vi);obtain⟨p,hp⟩:=exl (P1+cc)
    have lP:P1≤4294967295*4294967295:=by rw[←hP1];exact Nat.mul_le_mul (by omega) (by omega)
    obtain⟨c',hc'⟩:∃u,p/4294967296=u:=⟨_,rfl⟩;obtain⟨pl,hpl⟩:=exl (p%4294967296);obtain⟨x1,hx1⟩:=exl (xx+4294967296);obtain⟨x2,hx2⟩:=exl (x1-pl);obtain⟨t,ht⟩:=exl (x2-bb);obtain⟨y,hy⟩:=exl (t%4294967296);obtain⟨th,hth⟩:=exl (t/4294967296);obtain⟨b',hb'⟩:∃u,1-th=u:=⟨_,rfl⟩;have r1:IntKind.u64.wrap (vi:Int)=(vi:Int):=wuA
    have r2:(d:Int)*(vi:Int)=(P1:Int):=by rw[←hP1,Int.natCast_mul]
    have r3:IntKind.u64.wrap (P1:Int)=(P1:Int):=wuA
    have r4:(P1:Int)+(cc:Int)=(p:Int):=by omega
    have r5:IntKind.u64.wrap (p:Int)=(p:Int):=wuA
    have r6:(p:Int)/4294967296=(c':Int):=by omega
    have r7:IntKind.u64.wrap (xx:Int)=(xx:Int):=wuA
    have r8:(xx:Int)+4294967296=(x1:Int):=by omega
    have r9:IntKind.u64.wrap (x1:Int)=(x1:Int):=wuA
    have s1:bits BinOp.and IntKind.u64 (p:Int) 4294967295=(pl:Int):=by rw[←hpl];exact Mul64.maskN p (by omega)
    have s2:(x1:Int)-(pl:Int)=(x2:Int):=by omega
    have s3:IntKind.u64.wrap (x2:Int)=(x2:Int):=wuA
    have s4:(x2:Int)-(bb:Int)=(t:Int):=by omega
    have s5:IntKind.u64.wrap (t:Int)=(t:Int):=wuA
    have s6:bits BinOp.and IntKind.u64 (t:Int) 4294967295=(y:Int):=by rw[←hy];exact Mul64.maskN t (by omega)
    have s7:(y:Int)%4294967296=(y:Int):=by omega
    have s8:(t:Int)/4294967296=(th:Int):=by omega
    have s9:(1:Int)-(th:Int)=(b':Int):=by omega
    have s10:IntKind.u64.wrap (b':Int)=(b':Int):=wuA
    have lyy:y<4294967296:=by omega
    have st:=nd_dset L Z m y lyy
    have HN:Hu (c'<4294967296∧b'≤1∧dset Z m y<pq (j+(K+1))∧dset Z m y+d*(V%pq (i+1))*pq j=U+(c'+b')*pq (j+(i+1))):=fun _=>by
     have hmj:m=j+i:=by omega
     refine⟨by omega,by omega,dset_lt Z m y _ hZl (by omega) lyy,?_⟩;rw[hmj];rw[hmj]at hxx;exact sub_step32 U Z V d j i cc bb y pl c' b' hZe (by rw[hvi,hP1];omega) (by rw[hxx];omega)
    clear hcl hbl hZl hZe hKL hdB hlt lv lx lP hvi hxx hP1 hp hc' hpl hx1 hx2 ht hy hth hb' lyy hm
    go_wp2_with fail
    go_roundw
    case rel=>exact⟨i+1,c',b',dset Z m y,by omega,by go_num,rfl,rfl,HN,by rw[←st]⟩
    case measure=>simp[intOf];omega
   ·have q1:¬(i:Int)<(K:Int):=by omega
    obtain rfl:i=K:=by omega
    have gZ:=nd_get L Z J0 (by have:=(HQ.out ()).2.2.2.2;omega);obtain⟨xx,hxx⟩:=exl (dg Z J0);have lx:=dg_lt Z J0;rw[hxx]at gZ lx;obtain⟨x1,hx1⟩:=exl (xx+4294967296);obtain⟨x2,hx2⟩:=exl (x1-cc);obtain⟨t,ht⟩:=exl (x2-bb);obtain⟨y,hy⟩:=exl (t%4294967296);obtain⟨th,hth⟩:=exl (t/4294967296);have r7:IntKind.u64.wrap (xx:Int)=(xx:Int):=wuA
    have r8:(xx:Int)+4294967296=(x1:Int):=by omega
    have r9:IntKind.u64.wrap (x1:Int)=(x1:Int):=wuA
    have s2:(x1:Int)-(cc:Int)=(x2:Int):=by omega
    have s3:IntKind.u64.wrap (x2:Int)=(x2:Int):=wuA
    have s4:(x2:Int)-(bb:Int)=(t:Int):=by omega
    have s5:IntKind.u64.wrap (t:Int)=(t:Int):=wuA
    have s6:bits BinOp.and IntKind.u64 (t:Int) 4294967295=(y:Int):=by rw[←hy];exact Mul64.maskN t (by omega)
    have s7:(y:Int)%4294967296=(y:Int):=by omega
    have s8:(t:Int)/4294967296=(th:Int):=by omega
    have lyy:y<4294967296:=by omega
    have st:=nd_dset L Z J0 y lyy;have hJK:=(HQ.out ()).2.2.2.2
    have hlast:dset Z J0 y+d*V*pq j=U+(1-th)*pq (j+(i+1)):=by
     rw[Nat.mod_eq_of_lt (HQ.out ()).2.2.2.1]at hZe;rw[hJK];rw[hJK]at hxx;exact sub_last32 U Z V d j i cc bb y (1-th) hZe (by rw[hxx];omega)
    have hZ1:=dset_lt Z J0 y _ hZl (by omega) lyy;rw[Nat.mul_assoc]at hlast
    have hth1:th≤1:=by omega
    obtain⟨Z1,hZ1'⟩:∃u,dset Z J0 y=u:=⟨_,rfl⟩;rw[hZ1']at hlast hZ1 st
    by_cases h1:th=1
    ·have u1:((th:Int)==1)=true:=by rw[beq_iff_eq];omega
     have HN:Hu (Z1+d*(V*pq j)=U∧Z1<V*pq j):=fun _=>by
      rw[h1,Nat.sub_self,Nat.zero_mul,Nat.add_zero]at hlast;exact⟨hlast,take_ok U (V*pq j) d Z1 (HQ.out ()).2.1 (by rw[(HQ.out ()).1];exact(HD.out ()).1) hlast⟩
     subst h1;clear hcl hbl hZl hZe hKL hdB hlt lx hxx hx1 hx2 ht hy hth lyy hlast hZ1 hth1 hZ1' hJK
     go_wp2_with fail
     go_ret
     exact⟨d,Z1,rfl,(HD.out ()).2.1,(HN.out ()).1,(HN.out ()).2,by rw[←st];exact grA⟩
    ·have u1:((th:Int)==1)=false:=by rw[beq_eq_false_iff_ne];omega
     have h0:th=0:=by omega
     have HN:Hu (Z1+d*(V*pq j)=U+pq (j+(i+1))∧Z1<pq (j+(i+1))∧0<d):=fun _=>by
      rw[h0,Nat.sub_zero,Nat.one_mul]at hlast;exact⟨hlast,hZ1,take_pos U (V*pq j) _ d Z1 hZ1 hlast⟩
     subst h0;clear hcl hbl hZl hZe hKL hdB hlt lx hxx hx1 hx2 ht hy hth lyy hlast hZ1 hth1 hZ1' hJK h1
     go_wp2_with fail
     clear r7 r8 r9 s2 s3 s4 s5 s6 s7 s8 u1 gZ;clear st
     go_loopw [11,17] (fun ca ia wr=>∃l cc Z z:Nat,l≤i∧ia=.int .i64 (l:Int)∧ca=.int .u64 (cc:Int)∧Hu (cc≤1∧Z<pq (j+(i+1))∧Z+cc*pq (j+l)=Z1+(V%pq l)*pq j)∧wr=(setBlk w b (nd L Z)).drewN z) (fun _ ia _=>i-(intOf ia).toNat)
     case atStart=>exact⟨0,0,Z1,z,by omega,rfl,rfl,fun _=>⟨by omega,(HN.out ()).2.1,by simp[pq_zero,Nat.mod_one]⟩,rfl⟩
     case round=>
      obtain⟨l,ce,Y,z2,hl,rfl,rfl,HI3,rfl⟩:=hrel;obtain⟨hcl,hZl,hZe⟩:=HI3.out ();have hKL:=HKL.out ()
      by_cases hlt:l<i
      ·have q0:(0:Int)≤(l:Int):=by omega
       have q2:(l:Int)<(i:Int):=by omega
       obtain⟨m,hm⟩:=exl (l+j)
       have q3:(l:Int)+(j:Int)=(m:Int):=by omega
       have q4:(m:Int)<(L:Int):=by omega
       have gv:=HCS.out l hlt;have gZ:=nd_get L Y m (by omega);obtain⟨vi,hvi⟩:=exl (dg V l);obtain⟨xx,hxx⟩:=exl (dg Y m);have lv:=dg_lt V l;have lx:=dg_lt Y m;rw[hvi]at gv lv;rw[hxx]at gZ lx
       have gZ2:∀z,((setBlk w b (nd L Y)).drewN z).cell? ⟨b,m,none⟩=some (.int .u32 (xx:Int)):=fun z=>by show (setBlk w b (nd L Y)).cell? _=_;rw[cell_in w b m _ hsz];exact gZ
       have gv2:∀z,((setBlk w b (nd L Y)).drewN z).cell? ⟨c,l,none⟩=some (.int .u32 (vi:Int)):=fun z=>by show (setBlk w b (nd L Y)).cell? _=_;rw[cell_other w b c l _ hbc];exact gv
       obtain⟨s0,hs0⟩:=exl (xx+vi);obtain⟨s,hs⟩:=exl (s0+ce);obtain⟨y2,hy⟩:=exl (s%4294967296);obtain⟨c',hc'⟩:∃u,s/4294967296=u:=⟨_,rfl⟩;have r1:IntKind.u64.wrap (vi:Int)=(vi:Int):=wuA;have r2:IntKind.u64.wrap (xx:Int)=(xx:Int):=wuA
       have r3:(xx:Int)+(vi:Int)=(s0:Int):=by omega
       have r4:IntKind.u64.wrap (s0:Int)=(s0:Int):=wuA
       have r5:(s0:Int)+(ce:Int)=(s:Int):=by omega
       have r6:IntKind.u64.wrap (s:Int)=(s:Int):=wuA
       have r7:bits BinOp.and IntKind.u64 (s:Int) 4294967295=(y2:Int):=by rw[←hy];exact Mul64.maskN s (by omega)
       have r8:(y2:Int)%4294967296=(y2:Int):=by omega
       have r9:(s:Int)/4294967296=(c':Int):=by omega
       have lyy:y2<4294967296:=by omega
       have st:=nd_dset L Y m y2 lyy
       have HN3:Hu (c'≤1∧dset Y m y2<pq (j+(i+1))∧dset Y m y2+c'*pq (j+(l+1))=Z1+(V%pq (l+1))*pq j):=fun _=>by
        have hmj:m=j+l:=by omega
        refine⟨by omega,dset_lt Y m y2 _ hZl (by omega) lyy,?_⟩;rw[hmj];rw[hmj]at hxx;exact back_step32 Z1 Y V j l ce y2 c' hZe (by rw[hxx,hvi];omega)
       clear hcl hZl hZe hKL hlt lv lx hvi hxx hs0 hs hy hc' lyy hm
       go_wp2_with fail
       go_quiet (fail)
       go_wp2_with fail
       go_roundw
       case rel=>exact⟨l+1,c',dset Y m y2,_,by omega,by go_num,rfl,HN3,by rw[←st]⟩
       case measure=>simp[intOf];omega
      ·have q2:¬(l:Int)<(i:Int):=by omega
       obtain rfl:l=i:=by omega
       have hJK:=(HQ.out ()).2.2.2.2;have gZ:=nd_get L Y J0 (by omega);obtain⟨xx,hxx⟩:=exl (dg Y J0);have lx:=dg_lt Y J0;rw[hxx]at gZ lx;obtain⟨y2,hy⟩:=exl ((xx+ce)%4294967296)
       have r1:(ce:Int)%4294967296=(ce:Int):=by omega
       have r2:IntKind.u32.wrap ((xx:Int)+(ce:Int))=(y2:Int):=by rw[IntKind.wrap_u32];omega
       have lyy:y2<4294967296:=by omega
       have st:=nd_dset L Y J0 y2 lyy;obtain⟨e,he⟩:=exl (d-1);have hd0:=(HN.out ()).2.2;have hdB:=(HD.out ()).2.1
       have f1:(d:Int)-1=(e:Int):=by omega
       have f2:IntKind.u64.wrap (e:Int)=(e:Int):=wuA
       have HN3:Hu (e<4294967296∧dset Y J0 y2+e*(V*pq j)=U∧dset Y J0 y2<V*pq j):=fun _=>by
        have hZ2:=dset_lt Y J0 y2 _ hZl (by omega) lyy
        have hla:dset Y J0 y2+(xx+ce)/4294967296*pq (j+(l+1))=Z1+V*pq j:=by
         rw[Nat.mod_eq_of_lt (HQ.out ()).2.2.2.1]at hZe;rw[hJK];rw[hJK]at hxx;exact back_last32 Z1 Y V j l ce y2 _ hZe (by rw[hxx];omega)
        have:=step_back U (V*pq j) (pq (j+(l+1))) d Z1 (dset Y J0 y2) _ hd0 (HN.out ()).2.1 hZ2 (HN.out ()).1 hla (by omega) (HD.out ()).2.2;rw[he]at this;exact⟨by omega,this.1,this.2⟩
       clear hcl hZl hZe hKL hlt lx hxx hy lyy hJK hd0 hdB he
       go_wp2_with fail
       go_ret
       exact⟨e,dset Y J0 y2,rfl,(HN3.out ()).1,(HN3.out ()).2.1,(HN3.out ()).2.2,by rw[←st];exact grA⟩
end
section
theorem nd_set_low(N H m x:Nat)(hx:x<4294967296):(nd N (H*pq (m+1))).setIfInBounds m (Value.int .u32 (x:Int))=nd N ((H*4294967296+x)*pq m):=by
 have e1:H*pq (m+1)%pq m=0:=by rw[pq_succ,←Nat.mul_assoc,Nat.mul_right_comm,Nat.mul_mod_left]
 have e2:H*pq (m+1)/pq (m+1)=H:=Nat.mul_div_cancel _ (pq_pos _);rw[nd_set N _ m x hx,e1,e2,Nat.zero_add,Nat.add_comm];refine congrArg (nd N) ?_;rw[pq_succ]
 grind
theorem short_step(A m dgt:Nat)(hm:0<m):(A*4294967296+dgt)/m=A/m*4294967296+(A%m*4294967296+dgt)/m∧(A*4294967296+dgt)%m=(A%m*4294967296+dgt)%m:=by
 have hd:=Nat.div_add_mod A m
 have e:A*4294967296+dgt=A%m*4294967296+dgt+m*(A/m*4294967296):=by
  grind
 refine⟨?_,?_⟩
 ·rw[e,Nat.add_mul_div_left _ _ hm,Nat.add_comm]
 ·rw[e,Nat.add_mul_mod_self_left]
attribute [local go_sem ↓] bsl_is
attribute [local go_sem] build1
theorem short_any(x m n:Nat)(p:Option Addr)(w:World)(hp:Sl w p x)(hx:dl x≤50000)(hm:0<m)(hm2:m<4294967296):
 Calls prog 61 #[.slice p (dl x) n,.int .u64 (m:Int)] w (Nm2 (x/m) (x%m) w):=by
 have lx:=dl_lt x;unfold Sl at hp;obtain⟨X,hX⟩:=exl (dl x);rw[hX]at lx hx hp ⊢;have hmk:∀w,(Instr.makeSlice 29 (.int .i64 (X:Int)) (.int .i64 (X:Int))).run prog w=.ok (.slice (some ⟨w.heap.size,0,none⟩) X X) (w.alloc (.cells (nd X 0) 61)):=fun w=>make_digits X (by omega) w
 have x1:(X:Int)≤50000:=by omega
 have n1:¬(m:Int)=0:=by omega
 have n2:((m:Int)==0)=false:=by rw[beq_eq_false_iff_ne];omega
 have HP:Hid _:=hp;have HX:Hu (x<pq X∧X≤50000):=fun _=>⟨lx,hx⟩;have HM:Hu (0<m∧m<4294967296):=fun _=>⟨hm,hm2⟩;clear lx hX hp hx hm hm2
 go_enter func61,ntmps61
 go_wp2
 clear hmk
 go_loopw [7,8] (fun ra ia wr=>∃k H r:Nat,k≤X∧ia=.int .i64 ((k:Int)-1)∧ra=.int .u64 (r:Int)∧Hu (x/pq k/m=H∧x/pq k%m=r)∧wr=w.alloc (.cells (nd X (H*pq k)) 61)) (fun _ ia _=>(intOf ia+1).toNat)
 case atStart=>exact⟨X,0,0,by omega,rfl,rfl,fun _=>by rw[Nat.div_eq_of_lt (HX.out ()).1,Nat.zero_div,Nat.zero_mod];exact⟨rfl,rfl⟩,by rw[Nat.zero_mul]⟩
 case round=>
  obtain⟨k,H,r,hk,rfl,rfl,HI,rfl⟩:=hrel;obtain⟨hH,hr⟩:=HI.out ();obtain⟨hm,hm2⟩:=HM.out ()
  by_cases hpos:0<k
  ·obtain⟨i,rfl⟩:∃i,k=i+1:=⟨k-1,by omega⟩
   have e1:(((i+1:Nat):Int)-1)=(i:Int):=by omega
   rw[e1]
   have i0:(0:Int)≤(i:Int):=by omega
   have i1:(i:Int)<(X:Int):=by omega
   obtain⟨b,rfl,hb,gb⟩:=HP.out i (by omega);obtain⟨dd,hdd⟩:=exl (dg x i);have ld:=dg_lt x i;rw[hdd]at gb ld
   have g1:w.cell? ⟨b,i,none⟩=some (.int .u32 (dd:Int)):=by rw[cell_blk];exact gb
   have gq:=nd_get X (H*pq (i+1)) i (by omega)
   have lr:r<m:=by rw[←hr];exact Nat.mod_lt _ hm
   obtain⟨s,hs⟩:=exl (r*4294967296);obtain⟨t,ht⟩:=exl (r*4294967296+dd);obtain⟨qd,hqd⟩:=exl (t/m);obtain⟨r',hr'⟩:∃u,t%m=u:=⟨_,rfl⟩
   have lq:qd<4294967296:=by
    rw[←hqd,Nat.div_lt_iff_lt_mul hm,←ht];have:(r+1)*4294967296≤m*4294967296:=Nat.mul_le_mul_right _ lr
    omega
   have lr':r'<m:=by rw[←hr'];exact Nat.mod_lt _ hm
   have a1:(r:Int)*4294967296=(s:Int):=by omega
   have a2:IntKind.u64.wrap (s:Int)=(s:Int):=wuA;have a3:IntKind.u64.wrap (dd:Int)=(dd:Int):=wuA
   have a4:bits BinOp.or IntKind.u64 (s:Int) (dd:Int)=(t:Int):=by rw[←ht,←hs];exact or_digits r dd (by omega) ld
   have a5:(t:Int).tdiv (m:Int)=(qd:Int):=by rw[Int.tdiv_eq_ediv_of_nonneg (by omega),←hqd,Int.natCast_ediv]
   have a6:(t:Int)/(m:Int)=(qd:Int):=by rw[←hqd,Int.natCast_ediv]
   have a7:IntKind.u64.wrap (qd:Int)=(qd:Int):=wuA
   have a8:(qd:Int)%4294967296=(qd:Int):=by omega
   have a9:(t:Int).tmod (m:Int)=(r':Int):=by rw[Int.tmod_eq_emod_of_nonneg (by omega),←hr',Int.natCast_emod]
   have b1:(t:Int)%(m:Int)=(r':Int):=by rw[←hr',Int.natCast_emod]
   have b2:IntKind.u64.wrap (r':Int)=(r':Int):=wuA;have st:=nd_set_low X H i qd lq
   have HN:Hu (x/pq i/m=H*4294967296+qd∧x/pq i%m=r'):=fun _=>by
    have h1:=short_step (x/pq (i+1)) m (dg x i) hm;rw[←ddiv_step2 x i,hH,hr,hdd,ht,hqd,hr']at h1;exact h1
   have HK:Hu (_):=fun _=>hk;clear hH hr hm hm2 hpos e1 gb ld lr hs ht hqd hr' lq lr' hdd hk
   go_wp2_with fail
   go_roundw
   case rel=>exact⟨i,H*4294967296+qd,r',by have:=HK.out ();omega,rfl,rfl,HN,by rw[←st]⟩
   case measure=>simp[intOf]
  ·obtain rfl:k=0:=by omega
   rw[pq_zero,Nat.div_one]at hH hr;rw[pq_zero,Nat.mul_one]
   have hHX:H<pq X:=by rw[←hH];exact Nat.lt_of_le_of_lt (Nat.div_le_self _ _) (HX.out ()).1
   have hrl:r<4294967296:=by
    have:r<m:=by rw[←hr];exact Nat.mod_lt _ hm
    omega
   have HH:Hu (H<pq X∧r<pq 1∧X≤100000):=fun _=>⟨hHX,by rw[pq_one];exact hrl,by have:=(HX.out ()).2;omega⟩;have HE:Hu (x/m=H∧x%m=r):=fun _=>⟨hH,hr⟩
   go_wp2_with (first
    | (go_at_call_of 35 (Value.slice (some ⟨w.heap.size,0,none⟩) X X);refine(trim_nd _ _ X H (HH.out ()).2.2 (HH.out ()).1 (by simp[go_sem])).mono ?_;rintro e w' ⟨rfl,rfl⟩)
    | (go_at_call 35;refine(trim_nd _ _ 1 r (by decide) (HH.out ()).2.1 (by simp[go_sem])).mono ?_;rintro e w' ⟨rfl,rfl⟩))
   go_ret2
   refine⟨_,_,_,_,by rw[(HE.out ()).1,(HE.out ()).2];rfl,?_,?_,grA⟩
   ·rw[(HE.out ()).1];exact Sl.of_blk (by simp[go_sem]) (by simp[go_sem]) (HH.out ()).1
   ·rw[(HE.out ()).2];exact Sl.of_blk (by simp[go_sem]) (by simp[go_sem]) (HH.out ()).2.1
end
end
end Go.Proofs.YtghidgcekieljaaGreat