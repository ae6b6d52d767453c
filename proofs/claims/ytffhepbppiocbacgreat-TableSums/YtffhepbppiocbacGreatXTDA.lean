import Derived.BigRegion
import Derived.Test.YtffhepbppiocbacGreatXTPC
import Derived.Test.YtffhepbppiocbacGreatXTEq
namespace Go.Proofs.YtffhepbppiocbacGreat
open Go.RowKit Go.Proofs.Tryz
set_option maxRecDepth 100000
set_option maxHeartbeats 8000000
section
attribute [local go_sem ↓] uz1
attribute [local go_sem] uz2
section
attribute [local go_sem ↓] uz3
attribute [local go_sem] uz4 ones_nw
attribute [local go_sem] nw_ext9 nw_ext18 eqArr9 eqArr18
theorem isZero_any(a:Nat)(ha:a<M)(w:World):
 Cg 175 #[.agg (nw 9 a)] w (.bool (decide (a=0))):=by
 have d:=eqN9 a 0 ha M_pos;generalize decide (a=0)=z at *
 cases z
 all_goals
  go_enter func175,ntmps175
  go_wp2
  go_ret
  exact⟨rfl,grA⟩
theorem widen_any(a:Nat)(ha:a<M)(w:World):
 Cg 179 #[.agg (nw 9 a)] w (.agg (nw 18 a)):=by
 have d:Hu (_):=fun _=>congrArg (nw 18) (Nat.mod_eq_of_lt ha)
 go_enter func179,ntmps179
 go_wp2
 go_big_region
 go_wp2
 refine bo1 results179 (rd_wide (by rfl) ?_) ⟨rfl,grA⟩;simp[go_sem];exact d.out ()
theorem lowHalf_any(v:Nat)(w:World):
 Cg 189 #[.agg (nw 18 v)] w (.agg (nw 9 (v%M))):=by
 go_enter func189,ntmps189
 go_wp2
 go_big_region
 go_wp2
 refine bo1 results189 (rd_nat (by rfl) ?_) ⟨rfl,grA⟩;simp[go_sem]
 rfl
def Used(W n:Nat):Prop:=n≤18∧W<pw n∧(n=0∨pw (n-1)≤W)
theorem used_zero(x k:Nat)(hx:x<pw (k+1))(h:wd x k=0):x<pw k:=by
 have e:=mod_succ x k;rw[Nat.mod_eq_of_lt hx,h,Nat.zero_mul,Nat.add_zero]at e;rw[e];exact Nat.mod_lt _ (pw_pos k)
theorem used_some(x k:Nat)(h:wd x k≠0):pw k≤x:=by
 grind [pw,wd,Nat.div_eq_of_lt]
theorem used_any(v:Nat)(hv:v<pw 18)(w:World):
 Calls prog 191 #[.agg (nw 18 v)] w fun e w'=>∃n:Nat,e=.returned (.int .i64 n)∧Used v n∧w'=w.alloc (.cells (nw 18 v) 210):=by
 have h:Hu (_):=fun _=>hv
 go_enter func191,ntmps191
 go_wp2
 go_loopw [3] (fun i wr=>∃k:Nat,k≤18∧i=.int .i64 k∧Hu (v<pw k)∧wr=w.alloc (.cells (nw 18 v) 210)) (fun i _=>(intOf i).toNat)
 case atStart=>exact⟨18,by omega,rfl,h,rfl⟩
 case round=>
  obtain⟨k,q,rfl,d,rfl⟩:=hrel
  obtain rfl|⟨j,rfl⟩:k=0∨∃j,k=j+1:=by cases k with|zero=>exact Or.inl rfl|succ j=>exact Or.inr ⟨j,rfl⟩
  ·have f:Hu (Used v 0):=fun _=>⟨by omega,d.out (),Or.inl rfl⟩
   go_wp2
   go_ret
   exact⟨0,rfl,f.out (),rfl⟩
  ·have x:=nw_get 18 v j (by omega)
   by_cases hz:wd v j=0
   ·have A:Hu (v<pw j):=fun _=>used_zero v j (d.out ()) hz;rw[hz]at x
    go_wp2
    go_roundw
    case rel=>exact⟨j,by omega,by go_num,A,trivial⟩
    case measure=>simp[intOf]
   ·have f:Hu (Used v (j+1)):=fun _=>⟨q,d.out (),Or.inr (used_some v j hz)⟩
    go_wp2
    go_ret
    exact⟨j+1,rfl,f.out (),rfl⟩
theorem move_eq(W u j V c:Nat)(h:V+c*pw j=(W%pw j)*2^u):
 V+(wd W j*2^u%18446744073709551616+c)*pw j+wd W j*2^u/18446744073709551616*pw (j+1)=(W%pw (j+1))*2^u:=by
 have d:=shl_step W 0 u j V c (by rw[Nat.zero_add,pw_zero,Nat.one_mul];exact h)
 grind [pw_zero]
theorem move_end(W u V c:Nat)(hW:W<pw 18)(h:V+c*pw 18=(W%pw 18)*2^u):V+c*pw 18=W*2^u:=by
 rw[h,Nat.mod_eq_of_lt hW]
theorem moveUp_any(W u:Nat)(hW:W<pw 18)(hu:u<64)(w:World):
 Cg 190 #[.agg (nw 18 W),.int .i64 u] w (.agg (nw 19 (W*2^u))):=by
 have I:Hu (_):=fun _=>hW;have j:Hu (_):=fun _=>hu
 have u0:(0:Int)≤u:=by omega
 have u1:(u:Int)<64:=by omega
 have u2:((64:Int)-u)=((64-u:Nat):Int):=by omega
 have u3:(0:Int)≤((64-u:Nat):Int):=by omega
 clear hW hu
 go_enter func190,ntmps190
 go_wp2
 go_loopw [6,11] (fun c i wr=>∃k d V:Nat,k≤18∧i=.int .i64 k∧c=.int .u64 d∧Hu (d<2^u)∧Hu (V<pw k)∧Hu (V+d*pw k=(W%pw k)*2^u)∧wr=((w.alloc (.cells (nw 18 W) 210)).alloc (.cells (nw 19 0) 233)).alloc (.cells (nw 19 V) 233)) (fun _ i _=>18-(intOf i).toNat)
 case atStart=>exact⟨0,0,0,by omega,rfl,rfl,fun _=>Nat.two_pow_pos u,fun _=>pw_pos 0,fun _=>by simp[pw_zero,Nat.mod_one],rfl⟩
 case round=>
  obtain⟨k,d,V,J,rfl,rfl,A,B,D,rfl⟩:=hrel
  by_cases hlt:k<18
  ·have k0:(0:Int)≤k:=by omega
   have k1:(k:Int)<18:=by omega
   have ga:=nw_get 18 W k hlt;have gV:=nw_get 19 V k (by omega);obtain⟨y,q⟩:=exl (wd W k*2^u%18446744073709551616+d);obtain⟨c,x⟩:=exl (wd W k*2^u/18446744073709551616);have K:=shl_word (wd W k) d u (j.out ()) (A.out ());have L:=shl_carry (wd W k) u (j.out ());rw[q]at K;rw[x]at L
   have f:y<18446744073709551616:=by rw[←q];exact shl_lt _ _ u (by have:=j.out ();omega) (A.out ())
   have P:=nw_set_top 19 V k y f (B.out ());have HY:Hu (_):=fun _=>f
   have Q:Hu (c<2^u):=fun _=>by rw[←x];exact shl_carry_lt _ u (wd_lt W k)
   have S:Hu (V+y*pw k+c*pw (k+1)=(W%pw (k+1))*2^u):=fun _=>by rw[←q,←x];exact move_eq W u k V d (D.out ())
   have U:Hu (_):=fun _=>shl_next_lt V y k (B.out ()) f;clear q x f
   go_wp2
   go_roundw
   case rel=>exact⟨k+1,c,V+y*pw k,by omega,by go_num,rfl,Q,U,S,by first|rfl|rw[P]⟩
   case measure=>simp[intOf];omega
  ·have ki:¬(k:Int)<18:=by omega
   have h:k=18:=by omega
   have Y:(nw 19 V).setIfInBounds 18 (.int .u64 d)=nw 19 (W*2^u):=by
    have G:=B.out ();have H:=D.out ();have h3:=A.out ();rw[h]at G H;rw[nw_set_top 19 V 18 d (by have:=pow_lt64 u (j.out ());omega) G,move_end W u V d (I.out ()) H]
   obtain⟨X,C⟩:=exl (W*2^u);rw[C]at Y;have Z:Hu (_):=fun _=>C;clear hlt J h C
   go_wp2
   refine bo1 results190 (rd_19 (by rfl) ?_) ⟨by rw[Z.out ()],grA⟩;simp[go_sem]
end
end
end Go.Proofs.YtffhepbppiocbacGreat