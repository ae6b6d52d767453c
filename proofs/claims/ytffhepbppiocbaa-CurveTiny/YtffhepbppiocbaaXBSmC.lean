import Derived.Test.YtffhepbppiocbaaXBAdd
import Derived.Test.YtffhepbppiocbaaXBLib
import Derived.Test.YtffhepbppiocbaaXBDig
namespace Go.Proofs.Ytffhepbppiocbaa
open Go.RowKit Go.Proofs.Try
set_option maxRecDepth 100000
set_option maxHeartbeats 8000000
section
attribute [local go_sem ↓] uz1
attribute [local go_sem] uz2
section
theorem mul_raw(a b:Nat)(hb:b<M)(w:World):
 Cg 90 #[.agg (nw 9 a),.agg (nw 9 b)] w (.agg (nw 18 ((a%pw 9)*b))):=by
 have G:Hid _:=hb;clear hb
 go_enter func90,ntmps90
 go_wp2
 go_loopw [13] (fun i wr=>∃k:Nat,k≤9∧i=.int .i64 k∧wr=((((w.alloc (.cells (nw 9 a) 25)).alloc (.cells (nw 9 b) 25)).alloc (.cells (nw 18 0) 119)).alloc (.cells (nw 18 ((a%pw k)*b)) 119))) (fun i _=>9-(intOf i).toNat)
 case atStart=>exact⟨0,by omega,rfl,by rw[pw_zero,Nat.mod_one,Nat.zero_mul,nw18_zero]⟩
 case round=>
  obtain⟨k,hk,rfl,rfl⟩:=hrel
  by_cases hlt:k<9
  ·have S:(0:Int)≤k:=by omega
   have U:(k:Int)<9:=by omega
   have ga:=nw_get 9 a k hlt;have HK:Hid _:=hlt
   go_wp2
   go_loopw [8,19] (fun c j wr=>∃m d V:Nat,m≤9∧j=.int .i64 m∧c=.int .u64 d∧d<18446744073709551616∧V<pw (k+9)∧V+d*pw (k+m)=(a%pw k)*b+wd a k*pw k*(b%pw m)∧wr=((((w.alloc (.cells (nw 9 a) 25)).alloc (.cells (nw 9 b) 25)).alloc (.cells (nw 18 0) 119)).alloc (.cells (nw 18 V) 119))) (fun _ j _=>9-(intOf j).toNat)
   case atStart=>exact⟨0,0,(a%pw k)*b,by omega,rfl,rfl,by omega,mul_bound a b k G.out,by rw[pw_zero,Nat.mod_one,Nat.zero_mul,Nat.mul_zero],rfl⟩
   case round=>
    obtain⟨m,d,V,W,rfl,rfl,H,I,J,rfl⟩:=hrel;have x:Hid _:=H;have K:Hid _:=I;have L:Hid _:=J;clear H I J
    by_cases hmt:m<9
    ·have X:(0:Int)≤m:=by omega
     have Y:(m:Int)<9:=by omega
     have gb:=nw_get 9 b m hmt
     have A:k+m<18:=by omega
     have Z:=nw_get 18 V (k+m) A;obtain⟨q,B,f,h⟩:∃q B:Nat,(wd a k*wd b m+wd V (k+m)+d)%18446744073709551616=q∧(wd a k*wd b m+wd V (k+m)+d)/18446744073709551616=B:=⟨_,_,rfl,rfl⟩;have C:=fun w=>mulAdd_any (wd a k) (wd b m) (wd V (k+m)) d (wd_lt _ _) (wd_lt _ _) (wd_lt _ _) x.out w;rw[f,h]at C;have CM:Hid _:=C;have P:Hid _:=f;have Q:Hid _:=h;clear C f h
     go_wp2_with (go_at_call 93;refine(CM.out _).mono ?_;rintro e w' ⟨rfl,rfl⟩)
     go_roundw
     case rel=>
      have f:q<18446744073709551616:=by rw[←P.out];exact Nat.mod_lt _ (by decide)
      refine⟨m+1,B,wset V (k+m) q,by omega,by go_num,rfl,?_,wset_lt _ _ _ _ K.out (by omega) f,?_,?_⟩
      ·rw[←Q.out];exact mulAdd_lt _ _ _ _ (wd_lt _ _) (wd_lt _ _) (wd_lt _ _) x.out
      ·rw[←P.out,←Q.out];exact mul_step a b k m V d L.out
      ·rw[nw_wset 18 V (k+m) q f]
     case measure=>simp[intOf];omega
    ·have D:Hid (m=9):=show m=9 from by omega
     have l:k+9<18:=by omega
     have Z:=nw_get 18 V (k+9) l
     have aa:¬((m:Int)<9):=by omega
     clear W hmt
     go_wp2_with fail
     go_roundw
     case rel=>
      refine⟨k+1,by omega,by go_num,?_⟩;have e:=L.out;rw[D.out]at e;rw[←mul_last a b k V d G.out e,nw_set_top 18 V (k+9) d x.out K.out]
     case measure=>simp[intOf];omega
  ·have l:Hid (k=9):=show k=9 from by omega
   go_wp2
   exact bodyPost_ret (v:=.agg (nw 18 ((a%pw k)*b))) (by simp[results,results90,go_sem,nw18_lit]) rfl ⟨by rw[l.out],(((((Gr.refl w).alloc _).alloc _).alloc _).alloc _)⟩
theorem mul_any(a b:Nat)(ha:a<M)(hb:b<M)(w:World):
 Cg 90 #[.agg (nw 9 a),.agg (nw 9 b)] w (.agg (nw 18 (a*b))):=by
 refine(mul_raw a b hb w).mono fun e d h=>⟨?_,h.2⟩;rw[h.1,show a%pw 9=a from Nat.mod_eq_of_lt ha]
end
section
theorem bits_any(a:Nat)(ha:a<M)(w:World):
 Cg 48 #[.agg (nw 9 a)] w (.int .i64 (bl a)):=by
 have A:Hid _:=Nat.div_eq_of_lt ha;clear ha
 go_enter func48,ntmps48
 go_wp2
 go_loopw [3] (fun i wr=>∃k:Nat,k≤9∧i=.int .i64 ((k:Int)-1)∧a/pw k=0∧wr=w.alloc (.cells (nw 9 a) 25)) (fun i _=>(intOf i+1).toNat)
 case atStart=>exact⟨9,by omega,rfl,A.out,rfl⟩
 case round=>
  obtain⟨k,H,rfl,B,rfl⟩:=hrel;have f:Hid _:=B;clear B A
  by_cases hp:0<k
  ·obtain⟨j,rfl⟩:∃j,k=j+1:=⟨k-1,by omega⟩
   have I:j<9:=by omega
   have C:(((j+1:Nat):Int)-1)=(j:Int):=by omega
   rw[C]
   have J:(0:Int)≤j:=by omega
   have K:(j:Int)<9:=by omega
   have Q:=nw_get 9 a j I;clear C H hp
   by_cases hc:wd a j=0
   ·have h:(((wd a j:Nat):Int) != 0)=false:=by rw[hc];rfl
    have d:Hid _:=div_zero_of a j f.out hc;clear hc
    go_wp2
    go_roundw
    case rel=>exact⟨j,by omega,rfl,d.out,by trivial⟩
    case measure=>simp[intOf]
   ·have h:(((wd a j:Nat):Int) != 0)=true:=by rw[bne_iff_ne];omega
    have D:=wd_lt a j;have d:Hid _:=bl_top a j f.out hc;have l:=bl_le64 _ D;have x:=fun w=>len64 ((wd a j:Nat):Int) w (by omega) (by omega);rw[Int.toNat_natCast,bl_lib _ D]at x;obtain⟨q,G⟩:=exl (bl (wd a j));rw[G]at x l;have L:Hid _:=x;have P:Hid _:=G
    go_wp2_with (go_at_call 73;refine(L.out _).mono ?_;rintro e S ⟨rfl,rfl⟩)
    go_ret
    refine⟨congrArg Ending.returned (congrArg (Value.int IntKind.i64) ?_),grA⟩;rw[d.out,P.out]
    omega
  ·obtain rfl:k=0:=by omega
   have d:Hid (bl a=0):=by
    have e:=f.out;rw[pw_zero,Nat.div_one]at e;rw[e];exact bl_zero
   go_wp2
   go_ret
   exact⟨congrArg (fun z:Nat=>Ending.returned (Value.int IntKind.i64 (z:Int))) d.out.symm,grA⟩
end
end
end Go.Proofs.Ytffhepbppiocbaa