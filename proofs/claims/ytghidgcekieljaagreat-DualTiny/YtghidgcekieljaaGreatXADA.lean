import Derived.BigRegion
import Derived.Test.YtghidgcekieljaaGreatXAPC
import Derived.Test.YtghidgcekieljaaGreatXAEq
namespace Go.Proofs.YtghidgcekieljaaGreat
open Go.RowKit Go.Proofs.Tryz
set_option maxRecDepth 100000
set_option maxHeartbeats 8000000
section
attribute [local go_sem ↓] uz1
attribute [local go_sem] uz2
section
attribute [local go_sem ↓] uz3
attribute [local go_sem] uz4 ones_nw
attribute [local go_sem] uz5
theorem isZero_any(a:Nat)(ha:a<M)(w:World):
 Cg 166 #[.agg (nw 9 a)] w (.bool (decide (a=0))):=by
 have hq:=eqN9 a 0 ha M_pos;generalize decide (a=0)=z at *
 cases z
 all_goals
  go_enter func166,ntmps166
  go_wp2
  go_ret
  exact⟨rfl,grA⟩
theorem widen_any(a:Nat)(ha:a<M)(w:World):
 Cg 170 #[.agg (nw 9 a)] w (.agg (nw 18 a)):=by
 have HQ:Hu (_):=fun _=>congrArg (nw 18) (Nat.mod_eq_of_lt ha)
 go_enter func170,ntmps170
 go_wp2
 go_big_region
 go_wp2
 refine bodyPost_ret (res_one results170 (rd_wide (by rfl) ?_)) rfl ⟨rfl,grA⟩;simp[go_sem];exact HQ.out ()
theorem lowHalf_any(v:Nat)(w:World):
 Cg 180 #[.agg (nw 18 v)] w (.agg (nw 9 (v%M))):=by
 go_enter func180,ntmps180
 go_wp2
 go_big_region
 go_wp2
 refine bodyPost_ret (res_one results180 (rd_nat (by rfl) ?_)) rfl ⟨rfl,grA⟩;simp[go_sem]
 rfl
def Used(W n:Nat):Prop:=n≤18∧W<pw n∧(n=0∨pw (n-1)≤W)
theorem used_zero(x k:Nat)(hx:x<pw (k+1))(h:wd x k=0):x<pw k:=by
 have e:=mod_succ x k;rw[Nat.mod_eq_of_lt hx,h,Nat.zero_mul,Nat.add_zero]at e;rw[e];exact Nat.mod_lt _ (pw_pos k)
theorem used_some(x k:Nat)(h:wd x k≠0):pw k≤x:=by
 by_cases hc:x<pw k
 ·exfalso
  apply h
  unfold wd;rw[Nat.div_eq_of_lt hc]
 ·omega
theorem used_any(v:Nat)(hv:v<pw 18)(w:World):
 Calls prog 182 #[.agg (nw 18 v)] w fun e w'=>∃n:Nat,e=.returned (.int .i64 (n:Int))∧Used v n∧w'=w.alloc (.cells (nw 18 v) 208):=by
 have HX:Hu (_):=fun _=>hv
 go_enter func182,ntmps182
 go_wp2
 go_loopw [3] (fun i wr=>∃k:Nat,k≤18∧i=.int .i64 (k:Int)∧Hu (v<pw k)∧wr=w.alloc (.cells (nw 18 v) 208)) (fun i _=>(intOf i).toNat)
 case atStart=>exact⟨18,by omega,rfl,HX,rfl⟩
 case round=>
  obtain⟨k,hk,rfl,HK,rfl⟩:=hrel
  obtain rfl|⟨j,rfl⟩:k=0∨∃j,k=j+1:=by cases k with|zero=>exact Or.inl rfl|succ j=>exact Or.inr ⟨j,rfl⟩
  ·have HU:Hu (Used v 0):=fun _=>⟨by omega,HK.out (),Or.inl rfl⟩
   go_wp2
   go_ret
   exact⟨0,rfl,HU.out (),rfl⟩
  ·have hg:=nw_get 18 v j (by omega)
   by_cases hz:wd v j=0
   ·have HN:Hu (v<pw j):=fun _=>used_zero v j (HK.out ()) hz;rw[hz]at hg
    go_wp2
    go_roundw
    case rel=>exact⟨j,by omega,by go_num,HN,trivial⟩
    case measure=>simp[intOf]
   ·have HU:Hu (Used v (j+1)):=fun _=>⟨hk,HK.out (),Or.inr (used_some v j hz)⟩
    go_wp2
    go_ret
    exact⟨j+1,rfl,HU.out (),rfl⟩
theorem move_eq(W u j V c:Nat)(h:V+c*pw j=(W%pw j)*2^u):
 V+(wd W j*2^u%18446744073709551616+c)*pw j+wd W j*2^u/18446744073709551616*pw (j+1)=(W%pw (j+1))*2^u:=by
 have h':=shl_step W 0 u j V c (by rw[Nat.zero_add,pw_zero,Nat.one_mul];exact h);rw[Nat.zero_add,Nat.zero_add,pw_zero,Nat.one_mul]at h';exact h'
theorem move_end(W u V c:Nat)(hW:W<pw 18)(h:V+c*pw 18=(W%pw 18)*2^u):V+c*pw 18=W*2^u:=by
 rw[h,Nat.mod_eq_of_lt hW]
theorem moveUp_any(W u:Nat)(hW:W<pw 18)(hu:u<64)(w:World):
 Cg 181 #[.agg (nw 18 W),.int .i64 (u:Int)] w (.agg (nw 19 (W*2^u))):=by
 have HW:Hu (_):=fun _=>hW;have HU:Hu (_):=fun _=>hu
 have u0:(0:Int)≤(u:Int):=by omega
 have u1:(u:Int)<64:=by omega
 have u2:((64:Int)-(u:Int))=((64-u:Nat):Int):=by omega
 have u3:(0:Int)≤((64-u:Nat):Int):=by omega
 clear hW hu
 go_enter func181,ntmps181
 go_wp2
 go_loopw [6,11] (fun c i wr=>∃k d V:Nat,k≤18∧i=.int .i64 (k:Int)∧c=.int .u64 (d:Int)∧Hu (d<2^u)∧Hu (V<pw k)∧Hu (V+d*pw k=(W%pw k)*2^u)∧wr=((w.alloc (.cells (nw 18 W) 208)).alloc (.cells (nw 19 0) 230)).alloc (.cells (nw 19 V) 230)) (fun _ i _=>18-(intOf i).toNat)
 case atStart=>exact⟨0,0,0,by omega,rfl,rfl,fun _=>Nat.two_pow_pos u,fun _=>pw_pos 0,fun _=>by simp[pw_zero,Nat.mod_one],rfl⟩
 case round=>
  obtain⟨k,d,V,hk,rfl,rfl,HD,HV,HE,rfl⟩:=hrel
  by_cases hlt:k<18
  ·have k0:(0:Int)≤(k:Int):=by omega
   have k1:(k:Int)<18:=by omega
   have ga:=nw_get 18 W k hlt;have gV:=nw_get 19 V k (by omega);obtain⟨y,hy⟩:=exl (wd W k*2^u%18446744073709551616+d);obtain⟨c,hc⟩:=exl (wd W k*2^u/18446744073709551616);have s1:=shl_word (wd W k) d u (HU.out ()) (HD.out ());have s2:=shl_carry (wd W k) u (HU.out ());rw[hy]at s1;rw[hc]at s2
   have hyl:y<18446744073709551616:=by rw[←hy];exact shl_lt _ _ u (by have:=HU.out ();omega) (HD.out ())
   have s3:=nw_set_top 19 V k y hyl (HV.out ());have HY:Hu (_):=fun _=>hyl
   have HC:Hu (c<2^u):=fun _=>by rw[←hc];exact shl_carry_lt _ u (wd_lt W k)
   have HN:Hu (V+y*pw k+c*pw (k+1)=(W%pw (k+1))*2^u):=fun _=>by rw[←hy,←hc];exact move_eq W u k V d (HE.out ())
   have HL:Hu (_):=fun _=>shl_next_lt V y k (HV.out ()) hyl;clear hy hc hyl
   go_wp2
   go_roundw
   case rel=>exact⟨k+1,c,V+y*pw k,by omega,by go_num,rfl,HC,HL,HN,by first|rfl|rw[s3]⟩
   case measure=>simp[intOf];omega
  ·have ki:¬(k:Int)<18:=by omega
   have hk18:k=18:=by omega
   have HF:(nw 19 V).setIfInBounds 18 (.int .u64 (d:Int))=nw 19 (W*2^u):=by
    have h1:=HV.out ();have h2:=HE.out ();have h3:=HD.out ();rw[hk18]at h1 h2;rw[nw_set_top 19 V 18 d (by have:=pow_lt64 u (HU.out ());omega) h1,move_end W u V d (HW.out ()) h2]
   obtain⟨X,hX⟩:=exl (W*2^u);rw[hX]at HF;have HX:Hu (_):=fun _=>hX;clear hlt hk hk18 hX
   go_wp2
   refine bodyPost_ret (res_one results181 (rd_19 (by rfl) ?_)) rfl ⟨by rw[HX.out ()],grA⟩;simp[go_sem]
end
end
end Go.Proofs.YtghidgcekieljaaGreat