import Derived.Test.YtdomjicpdbblnaaXASmA
import Derived.Test.YtdomjicpdbblnaaXALib
import Derived.Test.YtdomjicpdbblnaaXADig
namespace Go.Proofs.Ytdomjicpdbblnaa
open Go.RowKit Go.Proofs.Try
set_option maxRecDepth 100000
set_option maxHeartbeats 8000000
section
attribute [local go_sem ↓] uz1
attribute [local go_sem] uz2
section
theorem bits_any(a:Nat)(ha:a<M)(w:World):
 Cg 16 #[.agg (nw 9 a)] w (.int .i64 (bl a)):=by
 have m:Hid _:=Nat.div_eq_of_lt ha;clear ha
 go_enter func16,ntmps16
 go_wp2
 go_loopw [3] (fun i wr=>∃k:Nat,k≤9∧i=.int .i64 ((k:Int)-1)∧a/pw k=0∧wr=w.alloc (.cells (nw 9 a) 25)) (fun i _=>(intOf i+1).toNat)
 case atStart=>exact⟨9,by omega,rfl,m.out,rfl⟩
 case round=>
  obtain⟨k,A,rfl,o,rfl⟩:=hrel;have d:Hid _:=o;clear o m
  by_cases hp:0<k
  ·obtain⟨j,rfl⟩:∃j,k=j+1:=⟨k-1,by omega⟩
   have B:j<9:=by omega
   have p:(((j+1:Nat):Int)-1)=(j:Int):=by omega
   rw[p]
   have C:(0:Int)≤j:=by omega
   have D:(j:Int)<9:=by omega
   have I:=nw_get 9 a j B;clear p A hp
   by_cases hc:wd a j=0
   ·have f:(((wd a j:Nat):Int) != 0)=false:=by rw[hc];rfl
    have b:Hid _:=div_zero_of a j d.out hc;clear hc
    go_wp2
    go_roundw
    case rel=>exact⟨j,by omega,rfl,b.out,by trivial⟩
    case measure=>simp[intOf]
   ·have f:(((wd a j:Nat):Int) != 0)=true:=by rw[bne_iff_ne];omega
    have v:=wd_lt a j;have b:Hid _:=bl_top a j d.out hc;have h:=bl_le64 _ v;have l:=fun w=>len64 ((wd a j:Nat):Int) w (by omega) (by omega);rw[Int.toNat_natCast,bl_lib _ v]at l;obtain⟨q,x⟩:=exl (bl (wd a j));rw[x]at l h;have G:Hid _:=l;have H:Hid _:=x
    go_wp2_with (go_at_call 27;refine(G.out _).mono ?_;rintro e J ⟨rfl,rfl⟩)
    go_ret
    refine⟨congrArg Ending.returned (congrArg (Value.int IntKind.i64) ?_),grA⟩;rw[b.out,H.out]
    omega
  ·obtain rfl:k=0:=by omega
   have b:Hid (bl a=0):=by
    have e:=d.out;rw[pw_zero,Nat.div_one]at e;rw[e];exact bl_zero
   go_wp2
   go_ret
   exact⟨congrArg (fun z:Nat=>Ending.returned (Value.int IntKind.i64 (z:Int))) b.out.symm,grA⟩
end
end
end Go.Proofs.Ytdomjicpdbblnaa