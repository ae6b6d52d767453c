import Derived.BigRegion
import Derived.Test.YtffhepbppiocbaaXBNN
import Derived.Test.YtffhepbppiocbaaXBEq
namespace Go.Proofs.Ytffhepbppiocbaa
open Go.RowKit Go.Proofs.Try
set_option maxRecDepth 100000
set_option maxHeartbeats 8000000
section
attribute [local go_sem ↓] uz1
attribute [local go_sem] uz2
section
attribute [local go_sem ↓] uz3
attribute [local go_sem] uz4 ones_nw
attribute [local go_sem] nw_ext9 nw_ext18 eqArr9 eqArr18
theorem isZero_any(a:Nat)(ha:a<M)(w:World):
 Cg 94 #[.agg (nw 9 a)] w (.bool (decide (a=0))):=by
 have d:=eqN9 a 0 ha M_pos;generalize decide (a=0)=z at *
 cases z
 all_goals
  go_enter func94,ntmps94
  go_wp2
  go_ret
  exact⟨rfl,grA⟩
def Used(W n:Nat):Prop:=n≤18∧W<pw n∧(n=0∨pw (n-1)≤W)
theorem used_zero(x k:Nat)(hx:x<pw (k+1))(h:wd x k=0):x<pw k:=by
 have e:=mod_succ x k;rw[Nat.mod_eq_of_lt hx,h,Nat.zero_mul,Nat.add_zero]at e;rw[e];exact Nat.mod_lt _ (pw_pos k)
theorem used_some(x k:Nat)(h:wd x k≠0):pw k≤x:=by
 grind [pw,wd,Nat.div_eq_of_lt]
theorem used_any(v:Nat)(hv:v<pw 18)(w:World):
 Calls prog 102 #[.agg (nw 18 v)] w fun e w'=>∃n:Nat,e=.returned (.int .i64 n)∧Used v n∧w'=w.alloc (.cells (nw 18 v) 119):=by
 have h:Hu (_):=fun _=>hv
 go_enter func102,ntmps102
 go_wp2
 go_loopw [3] (fun i wr=>∃k:Nat,k≤18∧i=.int .i64 k∧Hu (v<pw k)∧wr=w.alloc (.cells (nw 18 v) 119)) (fun i _=>(intOf i).toNat)
 case atStart=>exact⟨18,by omega,rfl,h,rfl⟩
 case round=>
  obtain⟨k,l,rfl,d,rfl⟩:=hrel
  obtain rfl|⟨j,rfl⟩:k=0∨∃j,k=j+1:=by cases k with|zero=>exact Or.inl rfl|succ j=>exact Or.inr ⟨j,rfl⟩
  ·have f:Hu (Used v 0):=fun _=>⟨by omega,d.out (),Or.inl rfl⟩
   go_wp2
   go_ret
   exact⟨0,rfl,f.out (),rfl⟩
  ·have q:=nw_get 18 v j (by omega)
   by_cases hz:wd v j=0
   ·have x:Hu (v<pw j):=fun _=>used_zero v j (d.out ()) hz;rw[hz]at q
    go_wp2
    go_roundw
    case rel=>exact⟨j,by omega,by go_num,x,trivial⟩
    case measure=>simp[intOf]
   ·have f:Hu (Used v (j+1)):=fun _=>⟨l,d.out (),Or.inr (used_some v j hz)⟩
    go_wp2
    go_ret
    exact⟨j+1,rfl,f.out (),rfl⟩
theorem move_eq(W u j V c:Nat)(h:V+c*pw j=(W%pw j)*2^u):
 V+(wd W j*2^u%18446744073709551616+c)*pw j+wd W j*2^u/18446744073709551616*pw (j+1)=(W%pw (j+1))*2^u:=by
 have d:=shl_step W 0 u j V c (by rw[Nat.zero_add,pw_zero,Nat.one_mul];exact h)
 grind [pw_zero]
theorem move_end(W u V c:Nat)(hW:W<pw 18)(h:V+c*pw 18=(W%pw 18)*2^u):V+c*pw 18=W*2^u:=by
 rw[h,Nat.mod_eq_of_lt hW]
theorem moveUp_any(W u:Nat)(hW:W<pw 18)(hu:u<64)(w:World):
 Cg 101 #[.agg (nw 18 W),.int .i64 u] w (.agg (nw 19 (W*2^u))):=by
 have H:Hu (_):=fun _=>hW;have j:Hu (_):=fun _=>hu
 have Z:(0:Int)≤u:=by omega
 have u1:(u:Int)<64:=by omega
 have u2:((64:Int)-u)=((64-u:Nat):Int):=by omega
 have u3:(0:Int)≤((64-u:Nat):Int):=by omega
 clear hW hu
 go_enter func101,ntmps101
 go_wp2
 go_loopw [6,11] (fun c i wr=>∃k d V:Nat,k≤18∧i=.int .i64 k∧c=.int .u64 d∧Hu (d<2^u)∧Hu (V<pw k)∧Hu (V+d*pw k=(W%pw k)*2^u)∧wr=((w.alloc (.cells (nw 18 W) 119)).alloc (.cells (nw 19 0) 130)).alloc (.cells (nw 19 V) 130)) (fun _ i _=>18-(intOf i).toNat)
 case atStart=>exact⟨0,0,0,by omega,rfl,rfl,fun _=>Nat.two_pow_pos u,fun _=>pw_pos 0,fun _=>by simp[pw_zero,Nat.mod_one],rfl⟩
 case round=>
  obtain⟨k,d,V,I,rfl,rfl,x,A,C,rfl⟩:=hrel
  by_cases hlt:k<18
  ·have k0:(0:Int)≤k:=by omega
   have k1:(k:Int)<18:=by omega
   have ga:=nw_get 18 W k hlt;have gV:=nw_get 19 V k (by omega);obtain⟨y,l⟩:=exl (wd W k*2^u%18446744073709551616+d);obtain⟨c,q⟩:=exl (wd W k*2^u/18446744073709551616);have J:=shl_word (wd W k) d u (j.out ()) (x.out ());have K:=shl_carry (wd W k) u (j.out ());rw[l]at J;rw[q]at K
   have f:y<18446744073709551616:=by rw[←l];exact shl_lt _ _ u (by have:=j.out ();omega) (x.out ())
   have L:=nw_set_top 19 V k y f (A.out ());have HY:Hu (_):=fun _=>f
   have P:Hu (c<2^u):=fun _=>by rw[←q];exact shl_carry_lt _ u (wd_lt W k)
   have Q:Hu (V+y*pw k+c*pw (k+1)=(W%pw (k+1))*2^u):=fun _=>by rw[←l,←q];exact move_eq W u k V d (C.out ())
   have S:Hu (_):=fun _=>shl_next_lt V y k (A.out ()) f;clear l q f
   go_wp2
   go_roundw
   case rel=>exact⟨k+1,c,V+y*pw k,by omega,by go_num,rfl,P,S,Q,by first|rfl|rw[L]⟩
   case measure=>simp[intOf];omega
  ·have ki:¬(k:Int)<18:=by omega
   have h:k=18:=by omega
   have U:(nw 19 V).setIfInBounds 18 (.int .u64 d)=nw 19 (W*2^u):=by
    have D:=A.out ();have G:=C.out ();have h3:=x.out ();rw[h]at D G;rw[nw_set_top 19 V 18 d (by have:=pow_lt64 u (j.out ());omega) D,move_end W u V d (H.out ()) G]
   obtain⟨X,B⟩:=exl (W*2^u);rw[B]at U;have Y:Hu (_):=fun _=>B;clear hlt I h B
   go_wp2
   refine bo1 results101 (rd_19 (by rfl) ?_) ⟨by rw[Y.out ()],grA⟩;simp[go_sem]
end
end
end Go.Proofs.Ytffhepbppiocbaa