import Derived.Test.YtffhepbppiocbacGreatXTAdd
import Derived.Test.YtffhepbppiocbacGreatXTLib
import Derived.Test.YtffhepbppiocbacGreatXTDig
namespace Go.Proofs.YtffhepbppiocbacGreat
open Go.RowKit Go.Proofs.Tryz
set_option maxRecDepth 100000
set_option maxHeartbeats 8000000
section
attribute [local go_sem ↓] uz1
attribute [local go_sem] uz2
section
theorem mul_raw(a b:Nat)(hb:b<M)(w:World):
 Cg 168 #[.agg (nw 9 a),.agg (nw 9 b)] w (.agg (nw 18 ((a%pw 9)*b))):=by
 have H:Hid _:=hb;clear hb
 go_enter func168,ntmps168
 go_wp2
 go_loopw [13] (fun i wr=>∃k:Nat,k≤9∧i=.int .i64 k∧wr=((((w.alloc (.cells (nw 9 a) 33)).alloc (.cells (nw 9 b) 33)).alloc (.cells (nw 18 0) 210)).alloc (.cells (nw 18 ((a%pw k)*b)) 210))) (fun i _=>9-(intOf i).toNat)
 case atStart=>exact⟨0,by omega,rfl,by rw[pw_zero,Nat.mod_one,Nat.zero_mul,nw18_zero]⟩
 case round=>
  obtain⟨k,hk,rfl,rfl⟩:=hrel
  by_cases hlt:k<9
  ·have U:(0:Int)≤k:=by omega
   have W:(k:Int)<9:=by omega
   have ga:=nw_get 9 a k hlt;have HK:Hid _:=hlt
   go_wp2
   go_loopw [8,19] (fun c j wr=>∃m d V:Nat,m≤9∧j=.int .i64 m∧c=.int .u64 d∧d<18446744073709551616∧V<pw (k+9)∧V+d*pw (k+m)=(a%pw k)*b+wd a k*pw k*(b%pw m)∧wr=((((w.alloc (.cells (nw 9 a) 33)).alloc (.cells (nw 9 b) 33)).alloc (.cells (nw 18 0) 210)).alloc (.cells (nw 18 V) 210))) (fun _ j _=>9-(intOf j).toNat)
   case atStart=>exact⟨0,0,(a%pw k)*b,by omega,rfl,rfl,by omega,mul_bound a b k H.out,by rw[pw_zero,Nat.mod_one,Nat.zero_mul,Nat.mul_zero],rfl⟩
   case round=>
    obtain⟨m,d,V,X,rfl,rfl,I,J,K,rfl⟩:=hrel;have A:Hid _:=I;have L:Hid _:=J;have P:Hid _:=K;clear I J K
    by_cases hmt:m<9
    ·have Y:(0:Int)≤m:=by omega
     have Z:(m:Int)<9:=by omega
     have gb:=nw_get 9 b m hmt
     have B:k+m<18:=by omega
     have gV:=nw_get 18 V (k+m) B;obtain⟨x,C,f,h⟩:∃x C:Nat,(wd a k*wd b m+wd V (k+m)+d)%18446744073709551616=x∧(wd a k*wd b m+wd V (k+m)+d)/18446744073709551616=C:=⟨_,_,rfl,rfl⟩;have D:=fun w=>mulAdd_any (wd a k) (wd b m) (wd V (k+m)) d (wd_lt _ _) (wd_lt _ _) (wd_lt _ _) A.out w;rw[f,h]at D;have CM:Hid _:=D;have Q:Hid _:=f;have S:Hid _:=h;clear D f h
     go_wp2_with (go_at_call 174;refine(CM.out _).mono ?_;rintro e w' ⟨rfl,rfl⟩)
     go_roundw
     case rel=>
      have f:x<18446744073709551616:=by rw[←Q.out];exact Nat.mod_lt _ (by decide)
      refine⟨m+1,C,wset V (k+m) x,by omega,by go_num,rfl,?_,wset_lt _ _ _ _ L.out (by omega) f,?_,?_⟩
      ·rw[←S.out];exact mulAdd_lt _ _ _ _ (wd_lt _ _) (wd_lt _ _) (wd_lt _ _) A.out
      ·rw[←Q.out,←S.out];exact mul_step a b k m V d P.out
      ·rw[nw_wset 18 V (k+m) x f]
     case measure=>simp[intOf];omega
    ·have G:Hid (m=9):=show m=9 from by omega
     have q:k+9<18:=by omega
     have gV:=nw_get 18 V (k+9) q
     have aa:¬((m:Int)<9):=by omega
     clear X hmt
     go_wp2_with fail
     go_roundw
     case rel=>
      refine⟨k+1,by omega,by go_num,?_⟩;have e:=P.out;rw[G.out]at e;rw[←mul_last a b k V d H.out e,nw_set_top 18 V (k+9) d A.out L.out]
     case measure=>simp[intOf];omega
  ·have q:Hid (k=9):=show k=9 from by omega
   go_wp2
   exact bodyPost_ret (v:=.agg (nw 18 ((a%pw k)*b))) (by simp[results,results168,go_sem,nw18_lit]) rfl ⟨by rw[q.out],(((((Gr.refl w).alloc _).alloc _).alloc _).alloc _)⟩
theorem mul_any(a b:Nat)(ha:a<M)(hb:b<M)(w:World):
 Cg 168 #[.agg (nw 9 a),.agg (nw 9 b)] w (.agg (nw 18 (a*b))):=by
 refine(mul_raw a b hb w).mono fun e d h=>⟨?_,h.2⟩;rw[h.1,show a%pw 9=a from Nat.mod_eq_of_lt ha]
end
section
theorem bits_any(a:Nat)(ha:a<M)(w:World):
 Cg 104 #[.agg (nw 9 a)] w (.int .i64 (bl a)):=by
 have B:Hid _:=Nat.div_eq_of_lt ha;clear ha
 go_enter func104,ntmps104
 go_wp2
 go_loopw [3] (fun i wr=>∃k:Nat,k≤9∧i=.int .i64 ((k:Int)-1)∧a/pw k=0∧wr=w.alloc (.cells (nw 9 a) 33)) (fun i _=>(intOf i+1).toNat)
 case atStart=>exact⟨9,by omega,rfl,B.out,rfl⟩
 case round=>
  obtain⟨k,I,rfl,C,rfl⟩:=hrel;have f:Hid _:=C;clear C B
  by_cases hp:0<k
  ·obtain⟨j,rfl⟩:∃j,k=j+1:=⟨k-1,by omega⟩
   have J:j<9:=by omega
   have D:(((j+1:Nat):Int)-1)=(j:Int):=by omega
   rw[D]
   have K:(0:Int)≤j:=by omega
   have L:(j:Int)<9:=by omega
   have S:=nw_get 9 a j J;clear D I hp
   by_cases hc:wd a j=0
   ·have h:(((wd a j:Nat):Int) != 0)=false:=by rw[hc];rfl
    have d:Hid _:=div_zero_of a j f.out hc;clear hc
    go_wp2
    go_roundw
    case rel=>exact⟨j,by omega,rfl,d.out,by trivial⟩
    case measure=>simp[intOf]
   ·have h:(((wd a j:Nat):Int) != 0)=true:=by rw[bne_iff_ne];omega
    have G:=wd_lt a j;have d:Hid _:=bl_top a j f.out hc;have x:=bl_le64 _ G;have A:=fun w=>len64 ((wd a j:Nat):Int) w (by omega) (by omega);rw[Int.toNat_natCast,bl_lib _ G]at A;obtain⟨q,H⟩:=exl (bl (wd a j));rw[H]at A x;have P:Hid _:=A;have Q:Hid _:=H
    go_wp2_with (go_at_call 139;refine(P.out _).mono ?_;rintro e U ⟨rfl,rfl⟩)
    go_ret
    refine⟨congrArg Ending.returned (congrArg (Value.int IntKind.i64) ?_),grA⟩;rw[d.out,Q.out]
    omega
  ·obtain rfl:k=0:=by omega
   have d:Hid (bl a=0):=by
    have e:=f.out;rw[pw_zero,Nat.div_one]at e;rw[e];exact bl_zero
   go_wp2
   go_ret
   exact⟨congrArg (fun z:Nat=>Ending.returned (Value.int IntKind.i64 (z:Int))) d.out.symm,grA⟩
def bitN(a i:Nat):Nat:=a/2^i%2
end
section
theorem bitN_lt(a i:Nat):bitN a i<2:=Nat.mod_lt _ (by decide)
end
end
end Go.Proofs.YtffhepbppiocbacGreat