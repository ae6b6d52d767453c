import Derived.BigRegion
import Derived.Deep.CutBlock
import Derived.Deep.QuietTactic
import Derived.BigQuiet
import Derived.Test.YtonbpnbhjghfbaaXARSub
import Derived.Test.YtonbpnbhjghfbaaXANN
namespace Go.Proofs.Ytonbpnbhjghfbaa
open Go.RowKit Go.Proofs.Try
set_option maxRecDepth 100000
set_option maxHeartbeats 8000000
section
attribute [local go_sem ↓] uz1
attribute [local go_sem] uz2
section
attribute [local go_sem ↓] copy_is
attribute [local go_sem] uz3 ones_nw
theorem cell_other(w:World)(b c i:Nat)(d:Array Value)(h:¬b=c):(setBlk w b d).cell? ⟨c,i,none⟩=w.cell? ⟨c,i,none⟩:=by
 rw[cell_blk,cell_blk,blk_other _ _ _ _ h]
theorem or_digits(h l:Nat)(hh:h<4294967296)(hl:l<4294967296):bits BinOp.or IntKind.u64 ((h*4294967296:Nat):Int) (l:Int)=((h*4294967296+l:Nat):Int):=by
 rw[bits_or_u64_nat (h*4294967296) l (by omega) (by omega)];have d:=Nat.two_pow_add_eq_or_of_lt (i:=32) hl h;rw[show h*4294967296=2^32*h from Nat.mul_comm _ _,←d]
attribute [local go_sem] cell_other
def Stp(w:World)(b L U T:Nat)(e:Ending)(w':World):Prop:=∃d Z:Nat,e=.returned (.int .u64 d)∧d<4294967296∧Z+d*T=U∧Z<T∧Gr (setBlk w b (nd L Z)) w'
theorem step_any(L U V j n b c cu cv:Nat)(w:World)(hL:L≤100000)(hj:j+(n+2)<L)(hub:blk w b=nd L U)(hf:frz w b=(0,0))(hbc:¬b=c)(hcs:∀i,i<n+2→(blk w c)[i]? = some (.int .u32 ((dg V i:Nat):Int)))(hV:V<pq (n+2))(hT:2147483648≤dg V (n+1))(hU:U<V*pq (j+1)):
 Calls prog 42 #[.slice (some ⟨b,0,none⟩) L cu,.slice (some ⟨c,0,none⟩) (n+2) cv,.int .i64 j] w (Stp w b L U (V*pq j)):=by
 obtain⟨ag,aG,J,G,W⟩:=step_pre U V n j hV (by omega) hU;have aT:=hV;have aD:=ag
 have aU:0<dg V (n+1):=by omega
 have hR:j+(n+2+1)=j+n+3:=by omega
 obtain⟨K,hK⟩:=exl (n+2);obtain⟨K1,aH⟩:=exl (n+1);obtain⟨H,aI⟩:=exl (j+n+2);obtain⟨J1,aJ⟩:=exl (j+n+1);obtain⟨J2,aK⟩:=exl (j+n);rw[←hR]at ag;rw[hK]at ag hcs hV hj ⊢;rw[aH]at hT J G W;rw[aI]at J G W;rw[aJ]at J G W;rw[aK]at G;obtain⟨uH,ap⟩:=exl (dg U H);obtain⟨uM,aq⟩:=exl (dg U J1);obtain⟨R,ar⟩:=exl (dg U J2);obtain⟨C,au⟩:=exl (dg V K1);obtain⟨S,av⟩:=exl (dg V n);have lH:=dg_lt U H;have lM:=dg_lt U J1;have lL:=dg_lt U J2;have l1:=dg_lt V K1;have l0:=dg_lt V n;rw[ap]at lH J G W;rw[aq]at lM J G W;rw[ar]at lL G;rw[au]at l1 hT J G W;rw[av]at l0 G;obtain⟨x,hx⟩:=exl (uH*4294967296+uM);rw[hx]at J G W;have aV:∀d,d<4294967296→d*(C*4294967296+S)≤x*4294967296+R→(d-1)*(V*pq j)≤U:=fun d h1 h2=>step_up U V n j d aT aU aD h1 (by rw[aH,aI,aJ,aK,ap,aq,ar,au,av,hx];exact h2);obtain⟨q,hq⟩:=exl (U/(V*pq j));rw[hq]at aG J G
 have aE:0<V*pq j:=by
  by_cases h:0<V*pq j
  ·exact h
  ·rw[pq_succ,←Nat.mul_assoc,show V*pq j=0 by omega,Nat.zero_mul]at hU;omega
 have aW:0<(blk w b).size:=by rw[hub,nd_size];omega
 have cH:∀z,(w.drewN z).cell? ⟨b,H,none⟩=some (.int .u32 uH):=fun z=>by show w.cell? _=_;rw[cell_blk,hub,nd_get L U H (by omega),ap]
 have cM:∀z,(w.drewN z).cell? ⟨b,J1,none⟩=some (.int .u32 uM):=fun z=>by show w.cell? _=_;rw[cell_blk,hub,nd_get L U J1 (by omega),aq]
 have cL:∀z,(w.drewN z).cell? ⟨b,J2,none⟩=some (.int .u32 R):=fun z=>by show w.cell? _=_;rw[cell_blk,hub,nd_get L U J2 (by omega),ar]
 have aL:∀z,(w.drewN z).cell? ⟨c,K1,none⟩=some (.int .u32 C):=fun z=>by show w.cell? _=_;rw[cell_blk,hcs K1 (by omega),au]
 have aX:∀z,(w.drewN z).cell? ⟨c,n,none⟩=some (.int .u32 S):=fun z=>by show w.cell? _=_;rw[cell_blk,hcs n (by omega),av]
 have aw:=cH 0;have ax:=cM 0;have ad:=aL 0;replace aw:w.cell? ⟨b,H,none⟩=some (.int .u32 uH):=aw;replace ax:w.cell? ⟨b,J1,none⟩=some (.int .u32 uM):=ax;replace ad:w.cell? ⟨c,K1,none⟩=some (.int .u32 C):=ad;obtain⟨hs,aY⟩:=exl (uH*4294967296);obtain⟨dA,ah⟩:=exl (x/C);obtain⟨rA,ai⟩:=exl (x%C);have a1:IntKind.u64.wrap (uH:Int)=uH:=wuA;have a2:IntKind.u64.wrap (uM:Int)=uM:=wuA;have a3:IntKind.u64.wrap (R:Int)=R:=wuA;have a4:IntKind.u64.wrap (C:Int)=C:=wuA;have a5:IntKind.u64.wrap (S:Int)=S:=wuA
 have a6:(uH:Int)*4294967296=hs:=by omega
 have a7:IntKind.u64.wrap (hs:Int)=hs:=wuA
 have a8:bits BinOp.or IntKind.u64 (hs:Int) (uM:Int)=x:=by rw[←hx,←aY];exact or_digits uH uM lH lM
 have bf:dA≤x:=by rw[←ah];exact Nat.div_le_self _ _
 have bg:rA<C:=by rw[←ai];exact Nat.mod_lt _ (by omega)
 have b1:(x:Int).tdiv (C:Int)=dA:=by rw[Int.tdiv_eq_ediv_of_nonneg (by omega),←ah,Int.natCast_ediv]
 have b2:IntKind.u64.wrap (dA:Int)=dA:=wuA
 have b3:(x:Int).tmod (C:Int)=rA:=by rw[Int.tmod_eq_emod_of_nonneg (by omega),←ai,Int.natCast_emod]
 have b4:IntKind.u64.wrap (rA:Int)=rA:=wuA
 have b5:(x:Int)/C=dA:=by rw[←ah,Int.natCast_ediv]
 have b6:(x:Int)%C=rA:=by rw[←ai,Int.natCast_emod]
 have n1:¬(C:Int)=0:=by omega
 have n2:((C:Int)==0)=false:=by rw[beq_eq_false_iff_ne];omega
 have e1:(K:Int)-1=K1:=by omega
 have e2:(K:Int)-2=n:=by omega
 have e3:(j:Int)+K=H:=by omega
 have e4:(H:Int)-1=J1:=by omega
 have e5:(H:Int)-2=J2:=by omega
 have i0:(H:Int)<L:=by omega
 have i1:(J1:Int)<L:=by omega
 have i2:(J2:Int)<L:=by omega
 have i3:(K1:Int)<K:=by omega
 have i4:(n:Int)<K:=by omega
 have m1:(L:Int)≤100000:=by omega
 have m2:(K:Int)≤100000:=by omega
 have m3:(j:Int)≤100000:=by omega
 have KQ:Hu (q<4294967296∧q*(C*4294967296+S)≤x*4294967296+R):=fun _=>⟨aG,G⟩;have KB:Hu (S<4294967296∧C<4294967296∧R<4294967296∧x≤C*4294967296+4294967295):=fun _=>⟨l0,l1,lL,W⟩
 have aM:Hu (Gs x C q dA rA):=fun _=>by rw[←ah,←ai];exact gs_start x C q (by omega) J
 have FA:Hu (rA<4294967296∧dA<18446744073709551616):=fun _=>by omega
 have aO:Hid _:=aV;have HQ:Hu (U/(V*pq j)=q∧0<V*pq j∧U<pq (j+(K+1))∧V<pq K∧H=j+K):=fun _=>⟨hq,aE,ag,hV,by omega⟩
 have aP:Hid (∀i,i<K→w.cell? ⟨c,i,none⟩=some (.int .u32 ((dg V i:Nat):Int))):=fun i hi=>by rw[cell_blk];exact hcs i hi
 have aZ:Hu (_):=fun _=>hj;have a0:Hu (setBlk w b (nd L U)=w):=fun _=>setBlk_self w b _ hub;clear aT aD aU aV aG J G W ag hV hT hU hq aE hub hcs hR hK aH aI aJ aK ap aq ar au av lH lM lL l1 l0 hx aY ah ai bf bg hL hj
 go_enter func42,ntmps42
 go_wp2_with fail
 go_quiet (fail)
 go_wp2_with fail
 go_quiet (fail)
 go_upto_block 0 with fail
 go_cut [9,10] from 54 to 89 (fun a r wx=>∃(d z:Nat) (v:Value),a=.int .u64 d∧r=v∧Hu (Gf x C S R q d)∧wx=w.drewN z)
 case first=>
  go_wp2_with fail
  go_loopw [9,10] (fun a b wr=>∃d r z:Nat,a=.int .u64 d∧b=.int .u64 r∧Hu (r<4294967296)∧Hu (d<18446744073709551616)∧Hu (Gs x C q d r)∧wr=w.drewN z) (fun a _ _=>(intOf a).toNat)
  case atStart=>exact⟨dA,rA,_,rfl,rfl,fun _=>(FA.out ()).1,fun _=>(FA.out ()).2,aM,by first|rfl|exact World.drewN_drewN _ _ _⟩
  case round=>
   clear aM FA a6 a7 a8 b1 b2 b3 b4 b5 b6 aO HQ aP a0 aw ax ad;obtain⟨d,r,z,rfl,rfl,HR,HL,HG,rfl⟩:=hrel;have rl:=HR.out ();have dl:=HL.out ();have vl:=(KB.out ()).2.1
   by_cases hB:4294967296≤d
   ·have b9:(4294967296:Int)≤d:=by omega
    have ab:4294967296≤d∨r*4294967296+R<d*S:=Or.inl hB;obtain⟨dp,GD⟩:=gs_dec x C S R q d r (HG.out ()) (KQ.out ()).1 (KQ.out ()).2 ab;obtain⟨e,he⟩:=exl (d-1);rw[he]at GD;obtain⟨f,hf⟩:=exl (r+C);rw[hf]at GD
    have f1:(d:Int)-1=e:=by omega
    have f2:IntKind.u64.wrap (e:Int)=e:=wuA
    have f3:(r:Int)+C=f:=by omega
    have f4:IntKind.u64.wrap (f:Int)=f:=wuA;have aQ:Hu (_):=fun _=>GD
    have HM:Hu (e<d):=fun _=>by omega
    have HE:Hu (e<18446744073709551616):=fun _=>by omega
    by_cases hr:f<4294967296
    ·have r1:(f:Int)<4294967296:=by omega
     have r2:decide ((4294967296:Int)≤f)=false:=decide_eq_false (by omega);have HF:Hu (_):=fun _=>hr;clear hr hB ab GD he hf dp rl dl vl
     go_wp2_with fail
     go_big_region
     go_wp2_with fail
     go_roundw
     case rel=>exact⟨e,f,_,rfl,rfl,HF,HE,aQ,rfl⟩
     case measure=>have:=HM.out ();simp[intOf];omega
    ·have r1:(4294967296:Int)≤f:=by omega
     have r2:=decide_eq_true r1;have HF:Hu (Gf x C S R q e):=fun _=>gs_break x C S R q e f (KB.out ()).1 GD (by omega) (KB.out ()).2.2.2;clear hr hB ab GD he hf dp rl dl vl
     go_wp2_with fail
     go_big_region
     go_wp2_with fail
     go_meet
     exact⟨e,_,_,rfl,rfl,HF,rfl⟩
   ·have b9:(d:Int)<4294967296:=by omega
    have b7:decide ((4294967296:Int)≤d)=false:=decide_eq_false (by omega);obtain⟨p,hp⟩:=exl (d*S)
    have p1:(d:Int)*S=p:=by rw[←hp,Int.natCast_mul]
    have pl:p<18446744073709551616:=by
     have h1:d*S≤4294967295*4294967295:=Nat.mul_le_mul (by omega) (by have:=(KB.out ()).1;omega)
     omega
    have p2:IntKind.u64.wrap (p:Int)=p:=wuA;obtain⟨t,ht⟩:=exl (r*4294967296+R);have ay:=(KB.out ()).2.2.1
    have tl:t<18446744073709551616:=by omega
    obtain⟨s,hs⟩:=exl (r*4294967296)
    have t0:(r:Int)*4294967296=s:=by omega
    have t1:IntKind.u64.wrap (s:Int)=s:=wuA
    have t2:bits BinOp.or IntKind.u64 (s:Int) (R:Int)=t:=by rw[←ht,←hs];exact or_digits r R rl ay
    by_cases hT:t<p
    ·have b8:(t:Int)<p:=by omega
     have b6:decide ((t:Int)<p)=true:=decide_eq_true b8;have ab:4294967296≤d∨r*4294967296+R<d*S:=Or.inr (by rw[hp,ht];exact hT);obtain⟨dp,GD⟩:=gs_dec x C S R q d r (HG.out ()) (KQ.out ()).1 (KQ.out ()).2 ab;obtain⟨e,he⟩:=exl (d-1);rw[he]at GD;obtain⟨f,hf⟩:=exl (r+C);rw[hf]at GD
     have f1:(d:Int)-1=e:=by omega
     have f2:IntKind.u64.wrap (e:Int)=e:=wuA
     have f3:(r:Int)+C=f:=by omega
     have f4:IntKind.u64.wrap (f:Int)=f:=wuA;have aQ:Hu (_):=fun _=>GD
     have HM:Hu (e<d):=fun _=>by omega
     have HE:Hu (e<18446744073709551616):=fun _=>by omega
     by_cases hr:f<4294967296
     ·have r1:(f:Int)<4294967296:=by omega
      have r2:decide ((4294967296:Int)≤f)=false:=decide_eq_false (by omega);have HF:Hu (_):=fun _=>hr;clear hr hB ab GD he hf dp hp ht hT pl tl rl dl vl hs ay
      go_wp2_with fail
      go_big_region
      go_wp2_with fail
      go_roundw
      case rel=>exact⟨e,f,_,rfl,rfl,HF,HE,aQ,rfl⟩
      case measure=>have:=HM.out ();simp[intOf];omega
     ·have r1:(4294967296:Int)≤f:=by omega
      have r2:=decide_eq_true r1;have HF:Hu (Gf x C S R q e):=fun _=>gs_break x C S R q e f (KB.out ()).1 GD (by omega) (KB.out ()).2.2.2;clear hr hB ab GD he hf dp hp ht hT pl tl rl dl vl hs ay
      go_wp2_with fail
      go_big_region
      go_wp2_with fail
      go_meet
      exact⟨e,_,_,rfl,rfl,HF,rfl⟩
    ·have b8:(p:Int)≤t:=by omega
     have b6:=decide_eq_false (by omega);have HF:Hu (Gf x C S R q d):=fun _=>gs_stop x C S R q d r (HG.out ()) (by omega) (by rw[hp,ht];omega);clear hB hp ht hT pl tl rl dl vl hs ay
     go_wp2_with fail
     go_big_region
     clear b7 b9 p1 p2 t0 t1 t2 cH cM cL aL aX hf hbc aW a1 a2 a3 a4 a5 n1 n2 e1 e2 e3 e4 e5 i0 i1 i2 i3 i4 m1 m2 m3
     go_wp2
     go_meet
     exact⟨d,_,_,rfl,rfl,HF,rfl⟩
 case rest=>
  obtain⟨d,z,v,rfl,rfl,HF,rfl⟩:=hcut;obtain⟨a9,X,bc⟩:=HF.out ();have HD:Hu (q≤d∧d<4294967296∧(d-1)*(V*pq j)≤U):=fun _=>⟨a9,X,aO.out d X bc⟩;clear HF aO aM FA KQ KB a1 a2 a3 a4 a5 a6 a7 a8 b1 b2 b3 b4 b5 b6 n1 n2 e1 e2 e4 e5 i1 i2 i3 i4 cH cM cL aL aX aw ax ad a9 X bc
  go_wp2_with fail
  go_loopw [11,12,13] (fun ca ba ia wr=>∃i cc bb Z:Nat,i≤K∧ia=.int .i64 i∧ca=.int .u64 cc∧ba=.int .u64 bb∧Hu (cc<4294967296∧bb≤1∧Z<pq (j+(K+1))∧Z+d*(V%pq i)*pq j=U+(cc+bb)*pq (j+i))∧wr=(setBlk w b (nd L Z)).drewN z) (fun _ _ ia _=>K-(intOf ia).toNat)
  case atStart=>exact⟨0,0,0,U,by omega,rfl,rfl,rfl,fun _=>⟨by omega,by omega,(HQ.out ()).2.2.1,by simp[pq_zero,Nat.mod_one]⟩,by rw[a0.out ()]⟩
  case round=>
   obtain⟨i,cc,bb,Z,hi,rfl,rfl,rfl,HI,rfl⟩:=hrel;obtain⟨ae,aR,P,I⟩:=HI.out ();have af:=aZ.out ();have X:=(HD.out ()).2.1
   by_cases hlt:i<K
   ·have q0:(0:Int)≤i:=by omega
    have q1:(i:Int)<K:=by omega
    obtain⟨m,hm⟩:=exl (i+j)
    have q2:(i:Int)+j=m:=by omega
    have q3:(m:Int)<L:=by omega
    have gv:=aP.out i hlt;have gZ:=nd_get L Z m (by omega);obtain⟨vi,ac⟩:=exl (dg V i);obtain⟨xx,B⟩:=exl (dg Z m);have lv:=dg_lt V i;have lx:=dg_lt Z m;rw[ac]at gv lv;rw[B]at gZ lx;obtain⟨P1,az⟩:=exl (d*vi);obtain⟨p,hp⟩:=exl (P1+cc)
    have lP:P1≤4294967295*4294967295:=by rw[←az];exact Nat.mul_le_mul (by omega) (by omega)
    obtain⟨c',aS⟩:∃u,p/4294967296=u:=⟨_,rfl⟩;obtain⟨pl,bd⟩:=exl (p%4294967296);obtain⟨x1,aA⟩:=exl (xx+4294967296);obtain⟨x2,aB⟩:=exl (x1-pl);obtain⟨t,ht⟩:=exl (x2-bb);obtain⟨y,hy⟩:=exl (t%4294967296);obtain⟨th,aC⟩:=exl (t/4294967296);obtain⟨b',bh⟩:∃u,1-th=u:=⟨_,rfl⟩;have r1:IntKind.u64.wrap (vi:Int)=vi:=wuA
    have r2:(d:Int)*vi=P1:=by rw[←az,Int.natCast_mul]
    have r3:IntKind.u64.wrap (P1:Int)=P1:=wuA
    have r4:(P1:Int)+cc=p:=by omega
    have r5:IntKind.u64.wrap (p:Int)=p:=wuA
    have r6:(p:Int)/4294967296=c':=by omega
    have r7:IntKind.u64.wrap (xx:Int)=xx:=wuA
    have r8:(xx:Int)+4294967296=x1:=by omega
    have r9:IntKind.u64.wrap (x1:Int)=x1:=wuA
    have s1:bits BinOp.and IntKind.u64 (p:Int) 4294967295=(pl:Int):=by rw[←bd];exact Mul64.maskN p (by omega)
    have s2:(x1:Int)-pl=x2:=by omega
    have s3:IntKind.u64.wrap (x2:Int)=x2:=wuA
    have s4:(x2:Int)-bb=t:=by omega
    have s5:IntKind.u64.wrap (t:Int)=t:=wuA
    have s6:bits BinOp.and IntKind.u64 (t:Int) 4294967295=(y:Int):=by rw[←hy];exact Mul64.maskN t (by omega)
    have s7:(y:Int)%4294967296=y:=by omega
    have s8:(t:Int)/4294967296=th:=by omega
    have s9:(1:Int)-th=b':=by omega
    have bo:IntKind.u64.wrap (b':Int)=b':=wuA
    have D:y<4294967296:=by omega
    have st:=nd_dset L Z m y D
    have HN:Hu (c'<4294967296∧b'≤1∧dset Z m y<pq (j+(K+1))∧dset Z m y+d*(V%pq (i+1))*pq j=U+(c'+b')*pq (j+(i+1))):=fun _=>by
     have aj:m=j+i:=by omega
     refine⟨by omega,by omega,dset_lt Z m y _ P (by omega) D,?_⟩;rw[aj];rw[aj]at B;exact sub_step32 U Z V d j i cc bb y pl c' b' I (by rw[ac,az];omega) (by rw[B];omega)
    clear ae aR P I af X hlt lv lx lP ac B az hp aS bd aA aB ht hy aC bh D hm
    go_wp2_with fail
    go_roundw
    case rel=>exact⟨i+1,c',b',dset Z m y,by omega,by go_num,rfl,rfl,HN,by rw[←st]⟩
    case measure=>simp[intOf];omega
   ·have q1:¬(i:Int)<K:=by omega
    obtain rfl:i=K:=by omega
    have gZ:=nd_get L Z H (by have:=(HQ.out ()).2.2.2.2;omega);obtain⟨xx,B⟩:=exl (dg Z H);have lx:=dg_lt Z H;rw[B]at gZ lx;obtain⟨x1,aA⟩:=exl (xx+4294967296);obtain⟨x2,aB⟩:=exl (x1-cc);obtain⟨t,ht⟩:=exl (x2-bb);obtain⟨y,hy⟩:=exl (t%4294967296);obtain⟨th,aC⟩:=exl (t/4294967296);have r7:IntKind.u64.wrap (xx:Int)=xx:=wuA
    have r8:(xx:Int)+4294967296=x1:=by omega
    have r9:IntKind.u64.wrap (x1:Int)=x1:=wuA
    have s2:(x1:Int)-cc=x2:=by omega
    have s3:IntKind.u64.wrap (x2:Int)=x2:=wuA
    have s4:(x2:Int)-bb=t:=by omega
    have s5:IntKind.u64.wrap (t:Int)=t:=wuA
    have s6:bits BinOp.and IntKind.u64 (t:Int) 4294967295=(y:Int):=by rw[←hy];exact Mul64.maskN t (by omega)
    have s7:(y:Int)%4294967296=y:=by omega
    have s8:(t:Int)/4294967296=th:=by omega
    have D:y<4294967296:=by omega
    have st:=nd_dset L Z H y D;have aa:=(HQ.out ()).2.2.2.2
    have A:dset Z H y+d*V*pq j=U+(1-th)*pq (j+(i+1)):=by
     rw[Nat.mod_eq_of_lt (HQ.out ()).2.2.2.1]at I;rw[aa];rw[aa]at B;exact sub_last32 U Z V d j i cc bb y (1-th) I (by rw[B];omega)
    have ak:=dset_lt Z H y _ P (by omega) D;rw[Nat.mul_assoc]at A
    have aF:th≤1:=by omega
    obtain⟨Z1,al⟩:∃u,dset Z H y=u:=⟨_,rfl⟩;rw[al]at A ak st
    by_cases h1:th=1
    ·have u1:((th:Int)==1)=true:=by rw[beq_iff_eq];omega
     have HN:Hu (Z1+d*(V*pq j)=U∧Z1<V*pq j):=fun _=>by
      rw[h1,Nat.sub_self,Nat.zero_mul,Nat.add_zero]at A;exact⟨A,take_ok U (V*pq j) d Z1 (HQ.out ()).2.1 (by rw[(HQ.out ()).1];exact(HD.out ()).1) A⟩
     subst h1;clear ae aR P I af X hlt lx B aA aB ht hy aC D A ak aF al aa
     go_wp2_with fail
     go_ret
     exact⟨d,Z1,rfl,(HD.out ()).2.1,(HN.out ()).1,(HN.out ()).2,by rw[←st];exact grA⟩
    ·have u1:((th:Int)==1)=false:=by rw[beq_eq_false_iff_ne];omega
     have h0:th=0:=by omega
     have HN:Hu (Z1+d*(V*pq j)=U+pq (j+(i+1))∧Z1<pq (j+(i+1))∧0<d):=fun _=>by
      rw[h0,Nat.sub_zero,Nat.one_mul]at A;exact⟨A,ak,take_pos U (V*pq j) _ d Z1 ak A⟩
     subst h0;clear ae aR P I af X hlt lx B aA aB ht hy aC D A ak aF al aa h1
     go_wp2_with fail
     clear r7 r8 r9 s2 s3 s4 s5 s6 s7 s8 u1 gZ;clear st
     go_loopw [11,17] (fun ca ia wr=>∃l cc Z z:Nat,l≤i∧ia=.int .i64 l∧ca=.int .u64 cc∧Hu (cc≤1∧Z<pq (j+(i+1))∧Z+cc*pq (j+l)=Z1+(V%pq l)*pq j)∧wr=(setBlk w b (nd L Z)).drewN z) (fun _ ia _=>i-(intOf ia).toNat)
     case atStart=>exact⟨0,0,Z1,z,by omega,rfl,rfl,fun _=>⟨by omega,(HN.out ()).2.1,by simp[pq_zero,Nat.mod_one]⟩,rfl⟩
     case round=>
      obtain⟨l,ce,Y,z2,hl,rfl,rfl,bi,rfl⟩:=hrel;obtain⟨ae,P,I⟩:=bi.out ();have af:=aZ.out ()
      by_cases hlt:l<i
      ·have q0:(0:Int)≤l:=by omega
       have q2:(l:Int)<i:=by omega
       obtain⟨m,hm⟩:=exl (l+j)
       have q3:(l:Int)+j=m:=by omega
       have q4:(m:Int)<L:=by omega
       have gv:=aP.out l hlt;have gZ:=nd_get L Y m (by omega);obtain⟨vi,ac⟩:=exl (dg V l);obtain⟨xx,B⟩:=exl (dg Y m);have lv:=dg_lt V l;have lx:=dg_lt Y m;rw[ac]at gv lv;rw[B]at gZ lx
       have bp:∀z,((setBlk w b (nd L Y)).drewN z).cell? ⟨b,m,none⟩=some (.int .u32 xx):=fun z=>by show (setBlk w b (nd L Y)).cell? _=_;rw[cell_in w b m _ aW];exact gZ
       have bq:∀z,((setBlk w b (nd L Y)).drewN z).cell? ⟨c,l,none⟩=some (.int .u32 vi):=fun z=>by show (setBlk w b (nd L Y)).cell? _=_;rw[cell_other w b c l _ hbc];exact gv
       obtain⟨s0,bj⟩:=exl (xx+vi);obtain⟨s,hs⟩:=exl (s0+ce);obtain⟨Q,hy⟩:=exl (s%4294967296);obtain⟨c',aS⟩:∃u,s/4294967296=u:=⟨_,rfl⟩;have r1:IntKind.u64.wrap (vi:Int)=vi:=wuA;have r2:IntKind.u64.wrap (xx:Int)=xx:=wuA
       have r3:(xx:Int)+vi=s0:=by omega
       have r4:IntKind.u64.wrap (s0:Int)=s0:=wuA
       have r5:(s0:Int)+ce=s:=by omega
       have r6:IntKind.u64.wrap (s:Int)=s:=wuA
       have r7:bits BinOp.and IntKind.u64 (s:Int) 4294967295=(Q:Int):=by rw[←hy];exact Mul64.maskN s (by omega)
       have r8:(Q:Int)%4294967296=Q:=by omega
       have r9:(s:Int)/4294967296=c':=by omega
       have D:Q<4294967296:=by omega
       have st:=nd_dset L Y m Q D
       have ao:Hu (c'≤1∧dset Y m Q<pq (j+(i+1))∧dset Y m Q+c'*pq (j+(l+1))=Z1+(V%pq (l+1))*pq j):=fun _=>by
        have aj:m=j+l:=by omega
        refine⟨by omega,dset_lt Y m Q _ P (by omega) D,?_⟩;rw[aj];rw[aj]at B;exact back_step32 Z1 Y V j l ce Q c' I (by rw[B,ac];omega)
       clear ae P I af hlt lv lx ac B bj hs hy aS D hm
       go_wp2_with fail
       go_quiet (fail)
       go_wp2_with fail
       go_roundw
       case rel=>exact⟨l+1,c',dset Y m Q,_,by omega,by go_num,rfl,ao,by rw[←st]⟩
       case measure=>simp[intOf];omega
      ·have q2:¬(l:Int)<i:=by omega
       obtain rfl:l=i:=by omega
       have aa:=(HQ.out ()).2.2.2.2;have gZ:=nd_get L Y H (by omega);obtain⟨xx,B⟩:=exl (dg Y H);have lx:=dg_lt Y H;rw[B]at gZ lx;obtain⟨Q,hy⟩:=exl ((xx+ce)%4294967296)
       have r1:(ce:Int)%4294967296=ce:=by omega
       have r2:IntKind.u32.wrap ((xx:Int)+ce)=(Q:Int):=by rw[IntKind.wrap_u32];omega
       have D:Q<4294967296:=by omega
       have st:=nd_dset L Y H Q D;obtain⟨e,he⟩:=exl (d-1);have be:=(HN.out ()).2.2;have X:=(HD.out ()).2.1
       have f1:(d:Int)-1=e:=by omega
       have f2:IntKind.u64.wrap (e:Int)=e:=wuA
       have ao:Hu (e<4294967296∧dset Y H Q+e*(V*pq j)=U∧dset Y H Q<V*pq j):=fun _=>by
        have bk:=dset_lt Y H Q _ P (by omega) D
        have bm:dset Y H Q+(xx+ce)/4294967296*pq (j+(l+1))=Z1+V*pq j:=by
         rw[Nat.mod_eq_of_lt (HQ.out ()).2.2.2.1]at I;rw[aa];rw[aa]at B;exact back_last32 Z1 Y V j l ce Q _ I (by rw[B];omega)
        have:=step_back U (V*pq j) (pq (j+(l+1))) d Z1 (dset Y H Q) _ be (HN.out ()).2.1 bk (HN.out ()).1 bm (by omega) (HD.out ()).2.2;rw[he]at this;exact⟨by omega,this.1,this.2⟩
       clear ae P I af hlt lx B hy D aa be X he
       go_wp2_with fail
       go_ret
       exact⟨e,dset Y H Q,rfl,(ao.out ()).1,(ao.out ()).2.1,(ao.out ()).2.2,by rw[←st];exact grA⟩
end
section
theorem nd_set_low(N H m x:Nat)(hx:x<4294967296):(nd N (H*pq (m+1))).setIfInBounds m (Value.int .u32 x)=nd N ((H*4294967296+x)*pq m):=by
 have d:H*pq (m+1)%pq m=0:=by rw[pq_succ,←Nat.mul_assoc,Nat.mul_right_comm,Nat.mul_mod_left]
 have f:H*pq (m+1)/pq (m+1)=H:=Nat.mul_div_cancel _ (pq_pos _);rw[nd_set N _ m x hx,d,f,Nat.zero_add,Nat.add_comm]
 grind [nd,pq_succ]
theorem short_step(A m dgt:Nat)(hm:0<m):(A*4294967296+dgt)/m=A/m*4294967296+(A%m*4294967296+dgt)/m∧(A*4294967296+dgt)%m=(A%m*4294967296+dgt)%m:=by
 have d:=Nat.div_add_mod A m
 have e:A*4294967296+dgt=A%m*4294967296+dgt+m*(A/m*4294967296):=by
  grind
 refine⟨?_,?_⟩
 ·rw[e,Nat.add_mul_div_left _ _ hm,Nat.add_comm]
 ·rw[e,Nat.add_mul_mod_self_left]
attribute [local go_sem ↓] bsl_is
attribute [local go_sem] build1
theorem short_any(x m n:Nat)(p:Option Addr)(w:World)(hp:Sl w p x)(hx:dl x≤50000)(hm:0<m)(hm2:m<4294967296):
 Calls prog 40 #[.slice p (dl x) n,.int .u64 m] w (Nm2 (x/m) (x%m) w):=by
 have G:=dl_lt x;unfold Sl at hp;obtain⟨X,S⟩:=exl (dl x);rw[S]at G hx hp ⊢;have I:∀w,(Instr.makeSlice 29 (.int .i64 X) (.int .i64 X)).run prog w=.ok (.slice (some ⟨w.heap.size,0,none⟩) X X) (w.alloc (.cells (nd X 0) 56)):=fun w=>make_digits X (by omega) w
 have x1:(X:Int)≤50000:=by omega
 have n1:¬(m:Int)=0:=by omega
 have n2:((m:Int)==0)=false:=by rw[beq_eq_false_iff_ne];omega
 have HP:Hid _:=hp;have J:Hu (x<pq X∧X≤50000):=fun _=>⟨G,hx⟩;have HM:Hu (0<m∧m<4294967296):=fun _=>⟨hm,hm2⟩;clear G S hp hx hm hm2
 go_enter func40,ntmps40
 go_wp2
 clear I
 go_loopw [7,8] (fun ra ia wr=>∃k H r:Nat,k≤X∧ia=.int .i64 ((k:Int)-1)∧ra=.int .u64 r∧Hu (x/pq k/m=H∧x/pq k%m=r)∧wr=w.alloc (.cells (nd X (H*pq k)) 56)) (fun _ ia _=>(intOf ia+1).toNat)
 case atStart=>exact⟨X,0,0,by omega,rfl,rfl,fun _=>by rw[Nat.div_eq_of_lt (J.out ()).1,Nat.zero_div,Nat.zero_mod];exact⟨rfl,rfl⟩,by rw[Nat.zero_mul]⟩
 case round=>
  obtain⟨k,H,r,U,rfl,rfl,HI,rfl⟩:=hrel;obtain⟨A,q⟩:=HI.out ();obtain⟨hm,hm2⟩:=HM.out ()
  by_cases hpos:0<k
  ·obtain⟨i,rfl⟩:∃i,k=i+1:=⟨k-1,by omega⟩
   have V:(((i+1:Nat):Int)-1)=(i:Int):=by omega
   rw[V]
   have i0:(0:Int)≤i:=by omega
   have i1:(i:Int)<X:=by omega
   obtain⟨b,rfl,hb,K⟩:=HP.out i (by omega);obtain⟨v,j⟩:=exl (dg x i);have L:=dg_lt x i;rw[j]at K L
   have g1:w.cell? ⟨b,i,none⟩=some (.int .u32 v):=by rw[cell_blk];exact K
   have gq:=nd_get X (H*pq (i+1)) i (by omega)
   have W:r<m:=by rw[←q];exact Nat.mod_lt _ hm
   obtain⟨s,Y⟩:=exl (r*4294967296);obtain⟨t,C⟩:=exl (r*4294967296+v);obtain⟨h,d⟩:=exl (t/m);obtain⟨l,f⟩:∃u,t%m=u:=⟨_,rfl⟩
   have Z:h<4294967296:=by
    rw[←d,Nat.div_lt_iff_lt_mul hm,←C];have:(r+1)*4294967296≤m*4294967296:=Nat.mul_le_mul_right _ W
    omega
   have P:l<m:=by rw[←f];exact Nat.mod_lt _ hm
   have a1:(r:Int)*4294967296=s:=by omega
   have a2:IntKind.u64.wrap (s:Int)=s:=wuA;have a3:IntKind.u64.wrap (v:Int)=v:=wuA
   have a4:bits BinOp.or IntKind.u64 (s:Int) (v:Int)=t:=by rw[←C,←Y];exact or_digits r v (by omega) L
   have a5:(t:Int).tdiv (m:Int)=h:=by rw[Int.tdiv_eq_ediv_of_nonneg (by omega),←d,Int.natCast_ediv]
   have a6:(t:Int)/m=h:=by rw[←d,Int.natCast_ediv]
   have a7:IntKind.u64.wrap (h:Int)=h:=wuA
   have a8:(h:Int)%4294967296=h:=by omega
   have a9:(t:Int).tmod (m:Int)=l:=by rw[Int.tmod_eq_emod_of_nonneg (by omega),←f,Int.natCast_emod]
   have b1:(t:Int)%m=l:=by rw[←f,Int.natCast_emod]
   have b2:IntKind.u64.wrap (l:Int)=l:=wuA;have st:=nd_set_low X H i h Z
   have HN:Hu (x/pq i/m=H*4294967296+h∧x/pq i%m=l):=fun _=>by
    have h1:=short_step (x/pq (i+1)) m (dg x i) hm;rw[←ddiv_step2 x i,A,q,j,C,d,f]at h1;exact h1
   have HK:Hu (_):=fun _=>U;clear A q hm hm2 hpos V K L W Y C d f Z P j U
   go_wp2_with fail
   go_roundw
   case rel=>exact⟨i,H*4294967296+h,l,by have:=HK.out ();omega,rfl,rfl,HN,by rw[←st]⟩
   case measure=>simp[intOf]
  ·obtain rfl:k=0:=by omega
   rw[pq_zero,Nat.div_one]at A q;rw[pq_zero,Nat.mul_one]
   have Q:H<pq X:=by rw[←A];exact Nat.lt_of_le_of_lt (Nat.div_le_self _ _) (J.out ()).1
   have R:r<4294967296:=by
    have:r<m:=by rw[←q];exact Nat.mod_lt _ hm
    omega
   have B:Hu (H<pq X∧r<pq 1∧X≤100000):=fun _=>⟨Q,by rw[pq_one];exact R,by have:=(J.out ()).2;omega⟩;have D:Hu (x/m=H∧x%m=r):=fun _=>⟨A,q⟩
   go_wp2_with (first
    | (go_at_call_of 32 (Value.slice (some ⟨w.heap.size,0,none⟩) X X);refine(trim_nd _ _ X H (B.out ()).2.2 (B.out ()).1 (by simp[go_sem])).mono ?_;rintro e w' ⟨rfl,rfl⟩)
    | (go_at_call 32;refine(trim_nd _ _ 1 r (by decide) (B.out ()).2.1 (by simp[go_sem])).mono ?_;rintro e w' ⟨rfl,rfl⟩))
   go_ret2
   refine⟨_,_,_,_,by rw[(D.out ()).1,(D.out ()).2];rfl,?_,?_,grA⟩
   ·rw[(D.out ()).1];exact Sl.of_blk (by simp[go_sem]) (by simp[go_sem]) (B.out ()).1
   ·rw[(D.out ()).2];exact Sl.of_blk (by simp[go_sem]) (by simp[go_sem]) (B.out ()).2.1
end
end
end Go.Proofs.Ytonbpnbhjghfbaa