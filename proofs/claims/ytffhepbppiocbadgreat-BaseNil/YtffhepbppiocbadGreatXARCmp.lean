import Derived.Test.YtffhepbppiocbadGreatXARSub
import Derived.Test.YtffhepbppiocbadGreatXAQt
namespace Go.Proofs.YtffhepbppiocbadGreat
open Go.RowKit Go.Proofs.Tryz
set_option maxRecDepth 100000
set_option maxHeartbeats 8000000
section
attribute [local go_sem ↓] uz1
attribute [local go_sem] uz2
section
theorem dmul_bound(x y k Y:Nat)(hy:y<pq Y):(x%pq k)*y<pq (k+Y):=by
 have d:x%pq k<pq k:=Nat.mod_lt _ (pq_pos k);rw[pq_add];exact Nat.mul_lt_mul_of_lt_of_lt d hy
theorem dmul_last(x y k Y V c:Nat)(hy:y<pq Y)(h:V+c*pq (k+Y)=(x%pq k)*y+dg x k*pq k*(y%pq Y)):V+c*pq (k+Y)=(x%pq (k+1))*y:=by
 rw[h,Nat.mod_eq_of_lt hy,dmod_succ,Nat.add_mul]
theorem rmul_any(x y n m:Nat)(p q:Option Addr)(w:World)(hp:Sl w p x)(hq:Sl w q y)(hx:dl x≤50000)(hy:dl y≤50000):
 Calls prog 71 #[.slice p (dl x) n,.slice q (dl y) m] w (Nm (x*y) w):=by
 have I:=dl_lt x;have J:=dl_lt y;unfold Sl at hp hq;obtain⟨X,hX⟩:=exl (dl x);obtain⟨Y,hY⟩:=exl (dl y);rw[hX]at I hx hp ⊢;rw[hY]at J hy hq ⊢;obtain⟨N,hN⟩:=exl (X+Y)
 have ab:(X:Int)+Y=N:=by omega
 have K:∀w,(Instr.makeSlice 28 (.int .i64 N) (.int .i64 N)).run prog w=.ok (.slice (some ⟨w.heap.size,0,none⟩) N N) (w.alloc (.cells (nd N 0) 36)):=fun w=>make_digits N (by omega) w
 have kb:Hu (N≤100000):=fun _=>by omega
 have x1:(X:Int)≤50000:=by omega
 have y1:(Y:Int)≤50000:=by omega
 have HP:Hid _:=hp;have HQ:Hid _:=hq;have HX:Hu (_):=fun _=>I;have L:Hu (_):=fun _=>J;have Q:Hu (_):=fun _=>hN;clear I J hX hY hp hq hx hy hN
 go_enter func71,ntmps71
 go_wp2
 clear K
 go_loopw [6] (fun i wr=>∃k:Nat,k≤X∧i=.int .i64 k∧∃d,wr=(w.alloc (.cells (nd N ((x%pq k)*y)) 36)).drewN d) (fun i _=>X-(intOf i).toNat)
 case atStart=>exact⟨0,by omega,rfl,0,by rw[pq_zero,Nat.mod_one,Nat.zero_mul];rfl⟩
 case round=>
  obtain⟨k,hk,rfl,d0,rfl⟩:=hrel
  by_cases hlt:k<X
  ·have k0:(0:Int)≤k:=by omega
   have k1:(k:Int)<X:=by omega
   obtain⟨b,rfl,hb,gb⟩:=HP.out k hlt
   have g1:w.cell? ⟨b,k,none⟩=some (.int .u32 ((dg x k:Nat):Int)):=by rw[cell_blk];exact gb
   have C:Hu (_):=fun _=>hlt;clear hlt gb
   go_wp2
   go_loopw [7,8] (fun c j wr=>∃e d V:Nat,e≤Y∧j=.int .i64 e∧c=.int .u64 d∧Hu (d<4294967296)∧Hu (V<pq (k+Y))∧Hu (V+d*pq (k+e)=(x%pq k)*y+dg x k*pq k*(y%pq e))∧∃z,wr=(w.alloc (.cells (nd N V) 36)).drewN z) (fun _ j _=>Y-(intOf j).toNat)
   case atStart=>exact⟨0,0,(x%pq k)*y,by omega,rfl,rfl,fun _=>by omega,fun _=>dmul_bound x y k Y (L.out ()),fun _=>by rw[pq_zero,Nat.mod_one,Nat.zero_mul,Nat.mul_zero],d0,rfl⟩
   case round=>
    obtain⟨e,d,V,he,rfl,rfl,D,G,HE,z,rfl⟩:=hrel
    by_cases het:e<Y
    ·have e0:(0:Int)≤e:=by omega
     have e1:(e:Int)<Y:=by omega
     obtain⟨c,rfl,hc,gc⟩:=HQ.out e het
     have g2:w.cell? ⟨c,e,none⟩=some (.int .u32 ((dg y e:Nat):Int)):=by rw[cell_blk];exact gc
     have S:k+e<N:=by have:=Q.out ();have:=C.out ();omega
     have gV:=nd_get N V (k+e) S
     have ki:(k:Int)+e<N:=by omega
     obtain⟨P,H⟩:=exl (dg x k*dg y e);obtain⟨s,U⟩:=exl (P+dg V (k+e)+d)
     have ac:((dg x k:Nat):Int)*((dg y e:Nat):Int)=(P:Int):=by rw[←H,Int.natCast_mul]
     have ae:(P:Int)+((dg V (k+e):Nat):Int)+(d:Int)=s:=by omega
     have f:s<18446744073709551616:=by
      have:=dmulAdd_lt (dg x k) (dg y e) (dg V (k+e)) d (dg_lt _ _) (dg_lt _ _) (dg_lt _ _) (D.out ());rw[H,U]at this
      omega
     have s0:(0:Int)≤s:=by omega
     have s1:(s:Int)<18446744073709551616:=by omega
     obtain⟨t,W⟩:=exl (s%4294967296)
     have hm:bits BinOp.and IntKind.u64 (s:Int) 4294967295=(t:Int):=by rw[←W];exact Mul64.maskN s f
     have af:(t:Int)%4294967296=t:=by omega
     have dx:=dg_lt x k;have dy:=dg_lt y e;have dV:=dg_lt V (k+e)
     have wx:IntKind.u64.wrap ((dg x k:Nat):Int)=((dg x k:Nat):Int):=by rw[IntKind.wrap_u64];omega
     have wy:IntKind.u64.wrap ((dg y e:Nat):Int)=((dg y e:Nat):Int):=by rw[IntKind.wrap_u64];omega
     have wV:IntKind.u64.wrap ((dg V (k+e):Nat):Int)=((dg V (k+e):Nat):Int):=by rw[IntKind.wrap_u64];omega
     have wP:IntKind.u64.wrap (P:Int)=P:=wuA
     have wQ:IntKind.u64.wrap ((P:Int)+((dg V (k+e):Nat):Int))=(P:Int)+((dg V (k+e):Nat):Int):=by rw[IntKind.wrap_u64];omega
     have wS:IntKind.u64.wrap (s:Int)=s:=wuA;clear dx dy dV;have h:Hu (_):=fun _=>H;have HS:Hu (_):=fun _=>U;have HT:Hu (_):=fun _=>W;clear H U W f het gc
     go_wp2
     go_quiet (fail)
     go_wp2
     go_roundw
     case rel=>
      have A:t<4294967296:=by rw[←HT.out ()];exact Nat.mod_lt _ (by decide)
      refine⟨e+1,s/4294967296,dset V (k+e) t,by omega,by go_num,congrArg (Value.int .u64) (by omega),fun _=>?_,fun _=>dset_lt _ _ _ _ (G.out ()) (by omega) A,fun _=>?_,z+nq,?_⟩
      ·have:=dmulAdd_lt (dg x k) (dg y e) (dg V (k+e)) d (dg_lt _ _) (dg_lt _ _) (dg_lt _ _) (D.out ());rw[h.out (),HS.out ()]at this;exact this
      ·have:=dmul_step x y k e V d (HE.out ());rw[h.out (),HS.out (),HT.out ()]at this;exact this
      ·rw[nd_dset N V (k+e) t A]
     case measure=>simp[intOf];omega
    ·have Z:e=Y:=by omega
     have ei:¬(e:Int)<Y:=by omega
     have aa:k+Y<N:=by have:=Q.out ();have:=C.out ();omega
     have gV:=nd_get N V (k+Y) aa
     have ki:(k:Int)+Y<N:=by omega
     have d1:(d:Int)%4294967296=d:=by have:=D.out ();omega
     have HF:Hu ((nd N V).setIfInBounds (k+Y) (.int .u32 d)=nd N ((x%pq (k+1))*y)):=fun _=>by
      have h1:=HE.out ();rw[Z]at h1;rw[nd_set_top N V (k+Y) d (D.out ()) (G.out ()),dmul_last x y k Y V d (L.out ()) h1]
     go_wp2
     go_roundw
     case rel=>exact⟨k+1,by have:=C.out ();omega,by go_num,z,by rw[HF.out ()]⟩
     case measure=>have:=C.out ();simp[intOf];omega
  ·have B:k=X:=by omega
   obtain⟨V,hV⟩:=exl ((x%pq k)*y);rw[hV]
   have G:Hu (V=x*y):=fun _=>by rw[←hV,B,Nat.mod_eq_of_lt (HX.out ())]
   have HB:Hu (V<pq N):=fun _=>by rw[←hV,B,←Q.out ()];exact dmul_bound x y X Y (L.out ())
   go_wp2_with (go_at_call 38;refine(trim_nd _ _ N V (kb.out ()) (HB.out ()) (by simp[go_sem])).mono ?_;rintro e w' ⟨rfl,rfl⟩)
   go_ret
   exact Nm.mk (G.out ()) (HB.out ()) (by simp[go_sem]) (by simp[go_sem]) grA
end
section
theorem ddiv_step(a j:Nat):a/pq j=a/pq (j+1)*4294967296+dg a j:=by
 unfold dg;rw[pq_succ,←Nat.div_div_eq_div_mul]
 omega
theorem dcmp_lt(a b j:Nat)(h:a/pq (j+1)=b/pq (j+1))(hw:dg a j<dg b j):cmpZ a b = -1:=by
 have:=lt_of_div a b (pq j) (by rw[ddiv_step a,ddiv_step b,h];omega);unfold cmpZ;rw[if_pos this]
theorem dcmp_gt(a b j:Nat)(h:a/pq (j+1)=b/pq (j+1))(hw:dg b j<dg a j):cmpZ a b=1:=by
 have:=lt_of_div b a (pq j) (by rw[ddiv_step a,ddiv_step b,h];omega)
 grind [cmpZ]
theorem dcmp_short(a b:Nat)(h:dl a<dl b):a<b:=by
 have f:=dl_lt a
 have i:¬b<pq (dl a):=fun d=>by have:=(dl_le b (dl a)).2 d;omega
 omega
theorem rcmp_any(x y n m:Nat)(p q:Option Addr)(w:World)(hp:Sl w p x)(hq:Sl w q y)(hx:dl x≤50000)(hy:dl y≤50000):
 Cg 26 #[.slice p (dl x) n,.slice q (dl y) m] w (.int .i64 (cmpZ x y)):=by
 have A:=dl_lt x;have B:=dl_lt y;have sx:=dcmp_short x y;have sy:=dcmp_short y x;unfold Sl at hp hq;obtain⟨X,I⟩:=exl (dl x);obtain⟨Y,J⟩:=exl (dl y);rw[I]at A hx hp sx sy ⊢;rw[J]at B hy hq sx sy ⊢
 have x1:(X:Int)≤50000:=by omega
 have y1:(Y:Int)≤50000:=by omega
 clear I J
 rcases Nat.lt_trichotomy X Y with hc|hc|hc
 ·have f:Hu (cmpZ x y = -1):=fun _=>by unfold cmpZ;rw[if_pos (sx hc)]
  have h1:(X:Int)<Y:=by omega
  have h2:¬(X:Int)=Y:=by omega
  clear A B sx sy hp hq hc
  go_enter func26,ntmps26
  go_wp2
  go_ret
  exact⟨congrArg (fun z=>Ending.returned (Value.int IntKind.i64 z)) (f.out ()).symm,grA⟩
 ·subst hc;have K:Hid _:=hp;have L:Hid _:=hq
  have P:Hu (x/pq X=y/pq X):=fun _=>by rw[Nat.div_eq_of_lt A,Nat.div_eq_of_lt B]
  clear A B sx sy hp hq
  go_enter func26,ntmps26
  go_wp2
  go_loopw [5] (fun i wr=>∃k:Nat,k≤X∧i=.int .i64 ((k:Int)-1)∧Hu (x/pq k=y/pq k)∧∃n,wr=w.drewN n) (fun i _=>(intOf i+1).toNat)
  case atStart=>exact⟨X,by omega,rfl,P,0,rfl⟩
  case round=>
   obtain⟨k,hk,rfl,C,d,rfl⟩:=hrel;clear P
   by_cases hpos:0<k
   ·obtain⟨j,rfl⟩:∃j,k=j+1:=⟨k-1,by omega⟩
    have Q:j<X:=by omega
    obtain⟨b,rfl,_,S⟩:=K.out j Q;obtain⟨c,rfl,_,U⟩:=L.out j Q
    have V:(((j+1:Nat):Int)-1)=(j:Int):=by omega
    rw[V]
    have aa:(0:Int)≤j:=by omega
    have ab:(j:Int)<X:=by omega
    have D:w.cell? ⟨b,j,none⟩=some (.int .u32 ((dg x j:Nat):Int)):=by rw[cell_blk];exact S
    have W:w.cell? ⟨c,j,none⟩=some (.int .u32 ((dg y j:Nat):Int)):=by rw[cell_blk];exact U
    have G:=D;have ac:=W;have h:∀d,(w.drewN d).cell? ⟨b,j,none⟩=some (.int .u32 ((dg x j:Nat):Int)):=fun _=>D;have Z:∀d,(w.drewN d).cell? ⟨c,j,none⟩=some (.int .u32 ((dg y j:Nat):Int)):=fun _=>W;clear V hk hpos K L S U
    rcases Nat.lt_trichotomy (dg x j) (dg y j) with hc|hc|hc
    ·have H:((dg x j:Nat):Int)<(dg y j:Nat):=by omega
     have ae:(((dg x j:Nat):Int)==((dg y j:Nat):Int))=false:=by rw[beq_eq_false_iff_ne];omega
     have f:Hu (_):=fun _=>dcmp_lt x y j (C.out ()) hc
     go_wp2
     go_quiet (fail)
     go_wp2
     go_quiet (fail)
     go_wp2
     go_ret
     exact⟨congrArg (fun z=>Ending.returned (Value.int IntKind.i64 z)) (f.out ()).symm,grA⟩
    ·have f:Hu (x/pq j=y/pq j):=fun _=>by rw[ddiv_step x,ddiv_step y,C.out (),hc]
     rw[hc]at D G h
     go_wp2
     go_quiet (fail)
     go_wp2
     go_roundw
     case rel=>exact⟨j,by omega,rfl,f,_,rfl⟩
     case measure=>simp[intOf]
    ·have H:¬((dg x j:Nat):Int)<(dg y j:Nat):=by omega
     have f:Hu (_):=fun _=>dcmp_gt x y j (C.out ()) hc
     go_wp2
     go_quiet (fail)
     go_wp2
     go_quiet (fail)
     go_wp2
     go_ret
     exact⟨congrArg (fun z=>Ending.returned (Value.int IntKind.i64 z)) (f.out ()).symm,grA⟩
   ·obtain rfl:k=0:=by omega
    have f:Hu (cmpZ x y=0):=fun _=>by
     have e:=C.out ();rw[pq_zero,Nat.div_one,Nat.div_one]at e;rw[e];exact cmpZ_eq y
    go_wp2
    go_ret
    exact⟨congrArg (fun z=>Ending.returned (Value.int IntKind.i64 z)) (f.out ()).symm,grA⟩
 ·have f:Hu (cmpZ x y=1):=fun _=>by unfold cmpZ;rw[if_neg (by have:=sy hc;omega),if_pos (sy hc)]
  go_enter func26,ntmps26
  go_wp2
  go_ret
  exact⟨congrArg (fun z=>Ending.returned (Value.int IntKind.i64 z)) (f.out ()).symm,grA⟩
end
end
end Go.Proofs.YtffhepbppiocbadGreat