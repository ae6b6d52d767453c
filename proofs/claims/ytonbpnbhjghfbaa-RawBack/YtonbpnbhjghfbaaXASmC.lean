import Derived.Test.YtonbpnbhjghfbaaXAAdd
import Derived.Test.YtonbpnbhjghfbaaXALib
import Derived.Test.YtonbpnbhjghfbaaXADig
namespace Go.Proofs.Ytonbpnbhjghfbaa
open Go.RowKit Go.Proofs.Try
set_option maxRecDepth 100000
set_option maxHeartbeats 8000000
section
attribute [local go_sem ↓] uz1
attribute [local go_sem] uz2
section
theorem bits_any(a:Nat)(ha:a<M)(w:World):
 Cg 45 #[.agg (nw 9 a)] w (.int .i64 (bl a)):=by
 have x:Hid _:=Nat.div_eq_of_lt ha;clear ha
 go_enter func45,ntmps45
 go_wp2
 go_loopw [3] (fun i wr=>∃k:Nat,k≤9∧i=.int .i64 ((k:Int)-1)∧a/pw k=0∧wr=w.alloc (.cells (nw 9 a) 25)) (fun i _=>(intOf i+1).toNat)
 case atStart=>exact⟨9,by omega,rfl,x.out,rfl⟩
 case round=>
  obtain⟨k,G,rfl,A,rfl⟩:=hrel;have f:Hid _:=A;clear A x
  by_cases hp:0<k
  ·obtain⟨j,rfl⟩:∃j,k=j+1:=⟨k-1,by omega⟩
   have H:j<9:=by omega
   have B:(((j+1:Nat):Int)-1)=(j:Int):=by omega
   rw[B]
   have I:(0:Int)≤j:=by omega
   have J:(j:Int)<9:=by omega
   have P:=nw_get 9 a j H;clear B G hp
   by_cases hc:wd a j=0
   ·have h:(((wd a j:Nat):Int) != 0)=false:=by rw[hc];rfl
    have d:Hid _:=div_zero_of a j f.out hc;clear hc
    go_wp2
    go_roundw
    case rel=>exact⟨j,by omega,rfl,d.out,by trivial⟩
    case measure=>simp[intOf]
   ·have h:(((wd a j:Nat):Int) != 0)=true:=by rw[bne_iff_ne];omega
    have C:=wd_lt a j;have d:Hid _:=bl_top a j f.out hc;have l:=bl_le64 _ C;have v:=fun w=>len64 ((wd a j:Nat):Int) w (by omega) (by omega);rw[Int.toNat_natCast,bl_lib _ C]at v;obtain⟨q,D⟩:=exl (bl (wd a j));rw[D]at v l;have K:Hid _:=v;have L:Hid _:=D
    go_wp2_with (go_at_call 61;refine(K.out _).mono ?_;rintro e Q ⟨rfl,rfl⟩)
    go_ret
    refine⟨congrArg Ending.returned (congrArg (Value.int IntKind.i64) ?_),grA⟩;rw[d.out,L.out]
    omega
  ·obtain rfl:k=0:=by omega
   have d:Hid (bl a=0):=by
    have e:=f.out;rw[pw_zero,Nat.div_one]at e;rw[e];exact bl_zero
   go_wp2
   go_ret
   exact⟨congrArg (fun z:Nat=>Ending.returned (Value.int IntKind.i64 (z:Int))) d.out.symm,grA⟩
end
end
end Go.Proofs.Ytonbpnbhjghfbaa