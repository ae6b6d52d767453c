import Derived.Deep.QuietTactic
import Derived.BigQuiet
import Derived.Test.YtonbpnbhjghfbaaXAAdd
namespace Go.Proofs.Ytonbpnbhjghfbaa
open Go.RowKit Go.Proofs.Try
set_option maxRecDepth 100000
set_option maxHeartbeats 8000000
section
attribute [local go_sem ↓] uz1
attribute [local go_sem] uz2
section
def cmpZ(a b:Nat):Int:=if a<b then -1 else if b<a then 1 else 0
theorem div_step(a j:Nat):a/pw j=a/pw (j+1)*18446744073709551616+wd a j:=by
 rw[pow_succ64,←Nat.div_div_eq_div_mul,wd]
 omega
theorem lt_of_div(a b p:Nat)(h:a/p<b/p):a<b:=by
 by_cases hlt:a<b
 ·exact hlt
 ·have:=Nat.div_le_div_right (c:=p) (show b≤a by omega)
  omega
theorem cmpZ_lt(a b j:Nat)(h:a/pw (j+1)=b/pw (j+1))(hw:wd a j<wd b j):cmpZ a b = -1:=by
 have:=lt_of_div a b (pw j) (by rw[div_step a,div_step b,h];omega);unfold cmpZ;rw[if_pos this]
theorem cmpZ_gt(a b j:Nat)(h:a/pw (j+1)=b/pw (j+1))(hw:wd b j<wd a j):cmpZ a b=1:=by
 have:=lt_of_div b a (pw j) (by rw[div_step a,div_step b,h];omega)
 grind [cmpZ]
theorem cmpZ_eq(a:Nat):cmpZ a a=0:=by simp[cmpZ]
theorem cmp_any(a b:Nat)(ha:a<M)(hb:b<M)(w:World):
 Cg 37 #[.agg (nw 9 a),.agg (nw 9 b)] w (.int .i64 (cmpZ a b)):=by
 have l:Hid (a/pw 9=b/pw 9):=by
  show a/M=b/M
  rw[Nat.div_eq_of_lt ha,Nat.div_eq_of_lt hb]
 clear ha hb
 go_enter func37,ntmps37
 go_wp2
 go_loopw [5] (fun i wr=>∃k:Nat,k≤9∧i=.int .i64 ((k:Int)-1)∧a/pw k=b/pw k∧∃n,wr=((w.alloc (.cells (nw 9 a) 25)).alloc (.cells (nw 9 b) 25)).drewN n) (fun i _=>(intOf i+1).toNat)
 case atStart=>exact⟨9,by omega,rfl,l.out,0,rfl⟩
 case round=>
  obtain⟨k,A,rfl,q,n,rfl⟩:=hrel;have h:Hid _:=q;clear q l
  by_cases hp:0<k
  ·obtain⟨j,rfl⟩:∃j,k=j+1:=⟨k-1,by omega⟩
   have v:j<9:=by omega
   have x:(((j+1:Nat):Int)-1)=(j:Int):=by omega
   rw[x]
   have B:(0:Int)≤j:=by omega
   have C:(j:Int)<9:=by omega
   have G:=nw_get 9 a j v;have H:=nw_get 9 b j v;clear x A hp
   rcases Nat.lt_trichotomy (wd a j) (wd b j) with hc|hc|hc
   ·have f:((wd a j:Nat):Int)<(wd b j:Nat):=by omega
    have d:Hid _:=cmpZ_lt a b j h.out hc;clear hc
    go_wp2
    go_quiet (fail)
    go_wp2
    go_ret
    exact⟨congrArg (fun z=>Ending.returned (Value.int IntKind.i64 z)) d.out.symm,grA⟩
   ·have f:¬((wd a j:Nat):Int)<(wd b j:Nat):=by omega
    have D:¬((wd b j:Nat):Int)<(wd a j:Nat):=by omega
    have d:Hid _:=show a/pw j=b/pw j from by rw[div_step a,div_step b,h.out,hc]
    go_wp2
    go_quiet (fail)
    go_wp2
    go_quiet (fail)
    go_wp2
    go_roundw
    case rel=>exact⟨j,by omega,rfl,d.out,_,rfl⟩
    case measure=>simp[intOf]
   ·have f:¬((wd a j:Nat):Int)<(wd b j:Nat):=by omega
    have d:Hid _:=cmpZ_gt a b j h.out hc
    go_wp2
    go_quiet (fail)
    go_wp2
    go_quiet (fail)
    go_wp2
    go_ret
    exact⟨congrArg (fun z=>Ending.returned (Value.int IntKind.i64 z)) d.out.symm,grA⟩
  ·obtain rfl:k=0:=by omega
   have d:Hid (cmpZ a b=0):=by
    have e:=h.out;rw[pw_zero,Nat.div_one,Nat.div_one]at e;rw[e];exact cmpZ_eq b
   go_wp2
   go_ret
   exact⟨congrArg (fun z=>Ending.returned (Value.int IntKind.i64 z)) d.out.symm,grA⟩
end
end
section
section
variable {n m a b c d e f g h i j k l o p q r s t u v:Nat}
theorem ppre_1(W:Pre n m):Pre n (m+a)=True:=eq_true (pre_add _ _ _ (W))
theorem ppre_2(W:Pre n m):Pre n (m+a+b)=True:=eq_true (pre_add _ _ _ (of_eq_true (ppre_1 W)))
theorem ppre_3(W:Pre n m):Pre n (m+a+b+c)=True:=eq_true (pre_add _ _ _ (of_eq_true (ppre_2 W)))
theorem ppre_4(W:Pre n m):Pre n (m+a+b+c+d)=True:=eq_true (pre_add _ _ _ (of_eq_true (ppre_3 W)))
theorem ppre_5(W:Pre n m):Pre n (m+a+b+c+d+e)=True:=eq_true (pre_add _ _ _ (of_eq_true (ppre_4 W)))
theorem ppre_6(W:Pre n m):Pre n (m+a+b+c+d+e+f)=True:=eq_true (pre_add _ _ _ (of_eq_true (ppre_5 W)))
end
abbrev uz4:=And.intro @ppre_1<|And.intro @ppre_2<|And.intro @ppre_3<|And.intro @ppre_4<|And.intro @ppre_5 @ppre_6
end
end Go.Proofs.Ytonbpnbhjghfbaa