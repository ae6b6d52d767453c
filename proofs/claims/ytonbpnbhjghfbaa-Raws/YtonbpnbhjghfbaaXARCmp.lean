import Derived.Test.YtonbpnbhjghfbaaXARSub
import Derived.Test.YtonbpnbhjghfbaaXAQt
namespace Go.Proofs.Ytonbpnbhjghfbaa
open Go.RowKit Go.Proofs.Try
set_option maxRecDepth 100000
set_option maxHeartbeats 8000000
section
attribute [local go_sem ↓] uz1
attribute [local go_sem] uz2
section
theorem ddiv_step(a j:Nat):a/pq j=a/pq (j+1)*4294967296+dg a j:=by
 unfold dg;rw[pq_succ,←Nat.div_div_eq_div_mul]
 omega
theorem dcmp_lt(a b j:Nat)(h:a/pq (j+1)=b/pq (j+1))(hw:dg a j<dg b j):cmpZ a b = -1:=by
 have:=lt_of_div a b (pq j) (by rw[ddiv_step a,ddiv_step b,h];omega);unfold cmpZ;rw[if_pos this]
theorem dcmp_gt(a b j:Nat)(h:a/pq (j+1)=b/pq (j+1))(hw:dg b j<dg a j):cmpZ a b=1:=by
 have:=lt_of_div b a (pq j) (by rw[ddiv_step a,ddiv_step b,h];omega)
 grind [cmpZ]
theorem dcmp_short(a b:Nat)(h:dl a<dl b):a<b:=by
 have f:=dl_lt a
 have i:¬b<pq (dl a):=fun d=>by have:=(dl_le b (dl a)).2 d;omega
 omega
theorem rcmp_any(x y n m:Nat)(p q:Option Addr)(w:World)(hp:Sl w p x)(hq:Sl w q y)(hx:dl x≤50000)(hy:dl y≤50000):
 Cg 28 #[.slice p (dl x) n,.slice q (dl y) m] w (.int .i64 (cmpZ x y)):=by
 have A:=dl_lt x;have B:=dl_lt y;have l:=dcmp_short x y;have h:=dcmp_short y x;unfold Sl at hp hq;obtain⟨X,I⟩:=exl (dl x);obtain⟨Y,J⟩:=exl (dl y);rw[I]at A hx hp l h ⊢;rw[J]at B hy hq l h ⊢
 have x1:(X:Int)≤50000:=by omega
 have y1:(Y:Int)≤50000:=by omega
 clear I J
 rcases Nat.lt_trichotomy X Y with hc|hc|hc
 ·have f:Hu (cmpZ x y = -1):=fun _=>by unfold cmpZ;rw[if_pos (l hc)]
  have h1:(X:Int)<Y:=by omega
  have h2:¬(X:Int)=Y:=by omega
  clear A B l h hp hq hc
  go_enter func28,ntmps28
  go_wp2
  go_ret
  exact⟨congrArg (fun z=>Ending.returned (Value.int IntKind.i64 z)) (f.out ()).symm,grA⟩
 ·subst hc;have K:Hid _:=hp;have L:Hid _:=hq
  have P:Hu (x/pq X=y/pq X):=fun _=>by rw[Nat.div_eq_of_lt A,Nat.div_eq_of_lt B]
  clear A B l h hp hq
  go_enter func28,ntmps28
  go_wp2
  go_loopw [5] (fun i wr=>∃k:Nat,k≤X∧i=.int .i64 ((k:Int)-1)∧Hu (x/pq k=y/pq k)∧∃n,wr=w.drewN n) (fun i _=>(intOf i+1).toNat)
  case atStart=>exact⟨X,by omega,rfl,P,0,rfl⟩
  case round=>
   obtain⟨k,Z,rfl,C,d,rfl⟩:=hrel;clear P
   by_cases hpos:0<k
   ·obtain⟨j,rfl⟩:∃j,k=j+1:=⟨k-1,by omega⟩
    have Q:j<X:=by omega
    obtain⟨b,rfl,_,R⟩:=K.out j Q;obtain⟨c,rfl,_,S⟩:=L.out j Q
    have U:(((j+1:Nat):Int)-1)=(j:Int):=by omega
    rw[U]
    have aa:(0:Int)≤j:=by omega
    have ab:(j:Int)<X:=by omega
    have D:w.cell? ⟨b,j,none⟩=some (.int .u32 ((dg x j:Nat):Int)):=by rw[cell_blk];exact R
    have V:w.cell? ⟨c,j,none⟩=some (.int .u32 ((dg y j:Nat):Int)):=by rw[cell_blk];exact S
    have G:=D;have ac:=V;have v:∀d,(w.drewN d).cell? ⟨b,j,none⟩=some (.int .u32 ((dg x j:Nat):Int)):=fun _=>D;have W:∀d,(w.drewN d).cell? ⟨c,j,none⟩=some (.int .u32 ((dg y j:Nat):Int)):=fun _=>V;clear U Z hpos K L R S
    rcases Nat.lt_trichotomy (dg x j) (dg y j) with hc|hc|hc
    ·have H:((dg x j:Nat):Int)<(dg y j:Nat):=by omega
     have ad:(((dg x j:Nat):Int)==((dg y j:Nat):Int))=false:=by rw[beq_eq_false_iff_ne];omega
     have f:Hu (_):=fun _=>dcmp_lt x y j (C.out ()) hc
     go_wp2
     go_quiet (fail)
     go_wp2
     go_quiet (fail)
     go_wp2
     go_ret
     exact⟨congrArg (fun z=>Ending.returned (Value.int IntKind.i64 z)) (f.out ()).symm,grA⟩
    ·have f:Hu (x/pq j=y/pq j):=fun _=>by rw[ddiv_step x,ddiv_step y,C.out (),hc]
     rw[hc]at D G v
     go_wp2
     go_quiet (fail)
     go_wp2
     go_roundw
     case rel=>exact⟨j,by omega,rfl,f,_,rfl⟩
     case measure=>simp[intOf]
    ·have H:¬((dg x j:Nat):Int)<(dg y j:Nat):=by omega
     have f:Hu (_):=fun _=>dcmp_gt x y j (C.out ()) hc
     go_wp2
     go_quiet (fail)
     go_wp2
     go_quiet (fail)
     go_wp2
     go_ret
     exact⟨congrArg (fun z=>Ending.returned (Value.int IntKind.i64 z)) (f.out ()).symm,grA⟩
   ·obtain rfl:k=0:=by omega
    have f:Hu (cmpZ x y=0):=fun _=>by
     have e:=C.out ();rw[pq_zero,Nat.div_one,Nat.div_one]at e;rw[e];exact cmpZ_eq y
    go_wp2
    go_ret
    exact⟨congrArg (fun z=>Ending.returned (Value.int IntKind.i64 z)) (f.out ()).symm,grA⟩
 ·have f:Hu (cmpZ x y=1):=fun _=>by unfold cmpZ;rw[if_neg (by have:=h hc;omega),if_pos (h hc)]
  go_enter func28,ntmps28
  go_wp2
  go_ret
  exact⟨congrArg (fun z=>Ending.returned (Value.int IntKind.i64 z)) (f.out ()).symm,grA⟩
end
end
end Go.Proofs.Ytonbpnbhjghfbaa