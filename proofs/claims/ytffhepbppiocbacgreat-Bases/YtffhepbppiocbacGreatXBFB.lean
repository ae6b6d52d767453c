import Derived.Deep.RegionLaw
import Derived.Deep.DrawnRows
import Derived.Test.YtffhepbppiocbacGreatXBDC
import Derived.Test.YtffhepbppiocbacGreatXBShr
import Derived.Test.YtffhepbppiocbacGreatXBLawA
namespace Go.Proofs.YtffhepbppiocbacGreat
open Go.RowKit Go.Proofs.Tryz
set_option maxRecDepth 100000
set_option maxHeartbeats 8000000
section
attribute [local go_sem ↓] uz1
attribute [local go_sem] uz2
section
attribute [local go_sem ↓] uz3
attribute [local go_sem] uz4 ones_nw
attribute [local go_sem ↓] Go.wp_at_zero Go.wp_at_succ
theorem pw_up(i k:Nat)(h:i≤k):pw i≤pw k:=Nat.pow_le_pow_right (by decide) (by omega)
theorem split_start(W D n u m:Nat)(hU:Used W m)(hu:u<64)(hT:9223372036854775808≤wd D n)(hD:D<pw (n+1))(hB:pw n*2^u≤D):W*2^u<D*pw (m-n):=by
 obtain⟨x,f,A⟩:=hU;have h:=Nat.two_pow_pos u
 by_cases hm:m≤n
 ·rw[show m-n=0 by omega,pw_zero,Nat.mul_one];have i:pw m≤pw n:=Nat.pow_le_pow_right (by decide) (by omega);have d:W*2^u<pw n*2^u:=Nat.mul_lt_mul_of_pos_right (by omega) h
  omega
 ·obtain⟨j,rfl⟩:∃j,m=n+j:=⟨m-n,by omega⟩;rw[show n+j-n=j by omega]
  have i:9223372036854775808*pw n≤D:=by
   have d:=Nat.div_mul_le_self D (pw n);rw[top_one D n hD]at d;exact Nat.le_trans (Nat.mul_le_mul_right _ hT) d
  have q:2^u≤9223372036854775808:=by
   have:=Nat.pow_le_pow_right (n:=2) (by decide) (show u≤63 by omega);exact this
  rw[pw_add]at f;have B:=Nat.mul_lt_mul_of_pos_right f h;have C:pw n*pw j*2^u≤pw n*pw j*9223372036854775808:=Nat.mul_le_mul_left _ q;have G:9223372036854775808*pw n*pw j≤D*pw j:=Nat.mul_le_mul_right _ i
  have e:pw n*pw j*9223372036854775808=9223372036854775808*pw n*pw j:=by grind
  omega
theorem q_set(H i t:Nat)(ht:t<18446744073709551616):(nw 18 (H*pw (i+1))).setIfInBounds i (Value.int .u64 t)=nw 18 ((H*18446744073709551616+t)*pw i):=by
 rw[nw_set_low 18 H i t ht];refine congrArg (nw 18) ?_;rw[pow_succ64]
 grind
theorem q_next(X V D H i t Z:Nat)(h:X=V+D*(H*pw (i+1)))(hz:Z+t*(D*pw i)=V):X=Z+D*((H*18446744073709551616+t)*pw i):=by
 rw[pow_succ64]at h;generalize pw i=P at *
 grind
theorem slice19(b l h:Nat)(hl:l<h)(hh:h≤19)(w:World):(Instr.sliceAt 233 (.pointer (some ⟨b,0,none⟩)) (some (.int .i64 l)) (some (.int .i64 h)) none).run prog w=.ok (.slice (some ⟨b,l,none⟩) (h-l) (19-l)) w:=by
 have d:(prog.info? 22).map (·.size)=some 1:=by kernel_rfl
 have f:prog.arrayLen 233=19:=by kernel_rfl
 have j:prog.elem 233=22:=by kernel_rfl
 rw[run_sliceAt_array_lh w 233 ⟨b,0,none⟩ (by kernel_rfl) .i64 .i64 (l:Int) (h:Int) (by omega) (by omega) (by rw[f];omega),j,f]
 cases hq:prog.info? 22 with
 | none=>rw[hq]at d;cases d
 | some i=>
  have q:i.size=1:=by simpa [hq]using d
  have x:¬19=l:=by omega
  simp[sizeOf,typeInfo,hq,q,slicedAt,x,Addr.add,Result.andThen];exact fun h=>h.symm
theorem slice9(b h:Nat)(hh:h<9)(w:World):(Instr.sliceAt 31 (.pointer (some ⟨b,0,none⟩)) none (some (.int .i64 ((h:Int)+1))) none).run prog w=.ok (.slice (some ⟨b,0,none⟩) (h+1) 9) w:=by
 have d:(prog.info? 22).map (·.size)=some 1:=by kernel_rfl
 have f:prog.arrayLen 31=9:=by kernel_rfl
 have j:prog.elem 31=22:=by kernel_rfl
 have q:((h:Int)+1).toNat=h+1:=by omega
 rw[run_sliceAt_array_h w 31 ⟨b,0,none⟩ (by kernel_rfl) .i64 ((h:Int)+1) (by omega) (by rw[f];omega),j,f,q]
 cases hq:prog.info? 22 with
 | none=>rw[hq]at d;cases d
 | some i=>simp[sizeOf,typeInfo,hq,slicedAt,Addr.add,Result.andThen]
def Spl(w:World)(X D u:Nat)(e:Ending)(w':World):Prop:=∃Q V,e=.returned (.tuple #[.agg (nw 18 Q),.agg (nw 9 (V/2^u))])∧X=V+D*Q∧V<D∧Gr w w'
theorem split_any(W D n u:Nat)(w:World)(hW:W<pw 18)(hu:u<64)(hn:n<9)(hD:D<pw (n+1))(hT:9223372036854775808≤wd D n)(hB:pw n*2^u≤D):
 Calls prog 187 #[.agg (dv D (n+1) u),.agg (nw 18 W)] w (Spl w (W*2^u) D u):=by
 have HM:Hid _:=moveUp_any W u hW hu;have HU:Hid _:=used_any W hW;have HT:Hid _:=fun i V b c w f h2 h3=>takeOut_any D n u i V b c w hn hD hT h2 h3 f;have A:Hid _:=fun m h=>split_start W D n u m h hu hT hD hB;have S:Hid _:=fun V w hV=>shr_any V u (Nat.lt_of_lt_of_le (Nat.lt_trans hV hD) (pw_up (n+1) 9 (by omega))) (by omega) w;have U:Hid (∀V,V<D→V%pw (n+1)=V):=fun V h=>Nat.mod_eq_of_lt (Nat.lt_trans h hD);have L:Hu (_):=fun _=>hn
 have n0:(0:Int)≤n:=by omega
 have n1:(n:Int)<9:=by omega
 clear hW hu hn hD hT hB
 go_enter func187,ntmps187
 go_upto_region 3 with (go_at_call 190;refine hkA HM fun g=>?_)
 go_cut [8] from 14 to 18 (fun a wx=>∃(x:Int) (m:Nat),a=.int .i64 x∧Hid (x=(m:Int)-((n:Int)+1))∧Hu (Used W m)∧∃k,wx=gro ((gro (((((w.alloc (.cells (dv D (n+1) u) 219)).alloc (.cells (nw 18 W) 210)).alloc (.cells (nw 18 0) 210)).alloc (.cells (nw 9 0) 33)).alloc (.cells (nw 18 0) 210)) g).alloc (.cells (nw 19 (W*2^u)) 233)) k)
 case first=>
  go_region_with (go_at_call 191;refine(HU.out _).mono ?_;rintro e w' ⟨m,rfl,hm,rfl⟩)
  all_goals
   have m1:(m:Int)≤18:=by have:=hm.1;omega
   have m0:(0:Int)≤m:=by omega
  all_goals
   go_wp2_with fail
  all_goals
   go_meet
   refine⟨_,m,rfl,?_,fun _=>hm,?_⟩
   ·show IntKind.i64.wrap ((m:Int)-((n:Int)+1))=(m:Int)-((n:Int)+1)
    rw[IntKind.wrap_i64];omega
   ·exact((Gr.refl _).alloc _).drew
 case rest=>
  obtain⟨x,m,rfl,HX,B,k,rfl⟩:=hcut;have d:=A.out m (B.out ());obtain⟨X,Y⟩:=exl (W*2^u);rw[Y]at d ⊢;have aa:Hu (_):=fun _=>d;have ab:Hu (_):=fun _=>Y;clear d Y HM HU A
  go_wp2_with fail
  go_loopw [8] (fun a wr=>∃(j H V:Nat) (y:Int),a=.int .i64 y∧Hid ((y+1).toNat=j ∧ -20<y∧j+n≤18)∧Hu (V<D*pw j∧X=V+D*(H*pw j))∧∃k,wr=gro ((gro (((((w.alloc (.cells (dv D (n+1) u) 219)).alloc (.cells (nw 18 W) 210)).alloc (.cells (nw 18 0) 210)).alloc (.cells (nw 9 0) 33)).alloc (.cells (nw 18 (H*pw j)) 210)) g).alloc (.cells (nw 19 V) 233)) k) (fun a _=>(intOf a+1).toNat)
  case atStart=>
   have f:=HX.out;have h2:=(B.out ()).1;have h3:=L.out ();exact⟨m-n,0,X,x,rfl,⟨by omega,by omega,by omega⟩,fun _=>⟨aa.out (),by simp⟩,k,by rw[Nat.zero_mul]⟩
  case round=>
   obtain⟨j,H,V,y,rfl,HY,HV,k2,rfl⟩:=hrel
   by_cases hj:0<j
   ·obtain⟨i,rfl⟩:∃i,j=i+1:=⟨j-1,by omega⟩;obtain⟨y1,y2,y3⟩:=HY.out
    obtain rfl:y=(i:Int):=by omega
    have i0:(0:Int)≤i:=by omega
    have i1:(i:Int)<18:=by omega
    obtain⟨q,hq⟩:=exl (i+(n+1+1))
    have i2:IntKind.i64.wrap ((i:Int)+((n:Int)+1))=(i:Int)+((n:Int)+1):=by rw[IntKind.wrap_i64];omega
    have i3:IntKind.i64.wrap ((i:Int)+((n:Int)+1)+1)=(q:Int):=by rw[IntKind.wrap_i64];omega
    have ac:∀(b:Nat) w,(Instr.sliceAt 233 (.pointer (some ⟨b,0,none⟩)) (some (.int .i64 i)) (some (.int .i64 q)) none).run prog w=.ok (.slice (some ⟨b,i,none⟩) (n+1+1) (19-i)) w:=fun b w=>by
     rw[slice19 b i q (by omega) (by omega) w,show q-i=n+1+1 by omega]
    have HQ:Hu (i+(n+1+1)≤19):=fun _=>by omega
    clear y1 y2 y3 HX hq
    go_wp2_with fail
    have hv:=(HV.out ()).1;have gq:=nw_get 18 (H*pw (i+1)) i (by have:=HQ.out ();omega);have ae:Hu (_):=fun _=>hv;clear hv
    go_region_with (go_at_call 192;refine(HT.out i V _ _ _ (HQ.out ()) ?_ (ae.out ())).mono ?_;exact⟨by simp[go_sem],by simp[go_sem],by simp[go_sem]⟩;rintro e w' ⟨C,Z,rfl,G,⟨k3,rfl⟩,hz,I⟩)
    all_goals
     have HZ:Hu (C<18446744073709551616∧Z<D*pw i∧Z+C*(D*pw i)=V):=fun _=>⟨G,hz,I⟩;clear G hz I gq ac i2 i3
     go_wp2_with fail
     go_roundw
     case rel=>
      have hh:=HZ.out ();have hq:=HQ.out ();exact⟨i,H*18446744073709551616+C,Z,(i:Int)-1,rfl,⟨by omega,by omega,by omega⟩,fun _=>⟨hh.2.1,q_next X V D H i C Z (HV.out ()).2 hh.2.2⟩,_,by rw[q_set H i C hh.1]⟩
     case measure=>simp[intOf]
   ·obtain rfl:j=0:=by omega
    have yn:¬(0:Int)≤y:=by have:=HY.out.1;omega
    have ag:y<0:=by omega
    obtain⟨Q,hQ⟩:=exl (H*pw 0);rw[hQ]
    have P:Hu (V<D∧X=V+D*Q):=fun _=>by
     have f:=HV.out ();rw[pw_zero,Nat.mul_one]at f;rw[←hQ,pw_zero];exact f
    have ah:min 19 (n+1)=n+1:=by have:=L.out ();omega
    have ai:n+1≤9:=by have:=L.out ();omega
    have af:n+1≤19:=by omega
    have aj:nw 9 (V%pw (n+1))=nw 9 V:=by rw[U.out V (P.out ()).1]
    have ak:=fun b w=>slice9 b n (L.out ()) w;obtain⟨R,hR⟩:=exl (V/2^u);have J:=fun w=>S.out V w (P.out ()).1;rw[hR]at J;have K:Hid _:=J;have HR:Hu (_):=fun _=>hR
    go_wp2_with fail
    go_big_region
    go_wp2_with (go_at_call 143;refine hkA K fun k4=>?_)
    go_big_region
    go_wp2_with fail
    refine bodyPost_ret (res_two results187 (rd_wide (by rfl) ?_) (rd_nat (by rfl) ?_)) rfl ⟨Q,V,by rw[HR.out ()],(ab.out ()).trans (P.out ()).2,(P.out ()).1,grA⟩
    ·simp[go_sem]
    ·simp[go_sem]
end
section
attribute [local go_sem ↓] uz3
attribute [local go_sem] uz4 ones_nw
structure Dv(m D n u:Nat):Prop where
 n9:n<9
 u64:u<64
 eq:D=m*2^u
 lt:D<pw (n+1)
 top:9223372036854775808≤wd D n
 low:pw n*2^u≤D
theorem bl_pwk(m k:Nat)(h:m<pw k):bl m≤64*k:=(bl_le m (64*k)).2 h
theorem bl_facts(m s:Nat)(h0:0<m)(hs:bl m=s):1≤s∧m<2^s∧2^(s-1)≤m:=by
 have d:=(bl_le m s).1 (by omega)
 have f:1≤s:=by
  by_cases hc:s=0
  ·grind
  ·omega
 refine⟨f,d,?_⟩
 by_cases hc:m<2^(s-1)
 ·have:=(bl_le m (s-1)).2 hc
  omega
 ·omega
theorem dv_of(m s n u:Nat)(hs1:1≤s)(hs9:s≤64*9)(h1:m<2^s)(h2:2^(s-1)≤m)(hn:n+1=(s+63)/64)(hu:u=64*(n+1)-s):Dv m (m*2^u) n u:=by
 have d:=Nat.two_pow_pos u
 have f:pw (n+1)=2^s*2^u:=by
  unfold pw;rw[←Nat.pow_add]
  congr 1
  omega
 have h:9223372036854775808*pw n=2^(s-1)*2^u:=by
  unfold pw;rw[←Nat.pow_add,show s-1+u=63+64*n by omega,Nat.pow_add]
 have lt:m*2^u<pw (n+1):=by rw[f];exact Nat.mul_lt_mul_of_pos_right h1 d
 refine⟨by omega,by omega,rfl,lt,?_,?_⟩
 ·rw[←top_one _ n lt,Nat.le_div_iff_mul_le (pw_pos n),h];exact Nat.mul_le_mul_right _ h2
 ·refine Nat.mul_le_mul_right _ (Nat.le_trans ?_ h2);exact Nat.pow_le_pow_right (by decide) (by omega)
theorem pw_le_M(n:Nat)(h:n≤9):pw n≤M:=pw_up n 9 h
theorem buildDv_is(p:Array (Nat×Value)):Instr.build 219 p=buildS 219 p:=rfl
theorem buildDv(D:Nat)(x y:Int)(w:World):(buildS 219 #[(0,.agg (nw 9 D)),(1,.int .i64 x),(2,.int .i64 y)]).run prog w=.ok (.agg (nw 9 D ++ #[.int .i64 x,.int .i64 y])) w:=by
 kernel_rfl
theorem dv_app(D n u:Nat):nw 9 D ++ #[.int .i64 ((n:Int)+1),.int .i64 u]=dv D (n+1) u:=rfl
attribute [local go_sem ↓] buildDv_is
attribute [local go_sem] buildDv dv_app
theorem divisorOf_any(m:Nat)(h0:0<m)(hM:m<M):
 ∃D n u,Dv m D n u∧∀w,Cg 177 #[.agg (nw 9 m)] w (.agg (dv D (n+1) u)):=by
 obtain⟨s,x⟩:=exl (bl m);obtain⟨f,h,i⟩:=bl_facts m s h0 x
 have j:s≤64*9:=by rw[←x];exact bl_pwk m 9 hM
 obtain⟨n,B⟩:∃n,n+1=(s+63)/64:=⟨(s+63)/64-1,by omega⟩;obtain⟨u,C⟩:∃u,u=64*(n+1)-s:=⟨_,rfl⟩;have d:=dv_of m s n u f j h i B C;obtain⟨D,A⟩:=exl (m*2^u);rw[A]at d;have q:=Nat.lt_of_lt_of_le d.lt (pw_le_M (n+1) (by have:=d.n9;omega))
 have G:Hid _:=fun w=>by
  have:=bits_any m hM w;rw[x]at this;exact this
 have H:Hid _:=fun w=>by
  have:=shl_any m u (by have:=d.u64;omega) w;rw[A,Nat.mod_eq_of_lt q]at this;exact this
 have L:(0:Int)≤s:=by omega
 have P:(s:Int)≤576:=by omega
 obtain⟨p,I⟩:=exl (s+63)
 have Q:(s:Int)+64-1=p:=by omega
 have J:(p:Int)/64=n+1:=by omega
 have S:((n:Int)+1)*64-(s:Int)=u:=by omega
 have K:Hid _:=d;refine⟨D,n,u,d,fun w=>?_⟩;clear I d K q A C B j f x h0 hM h i
 go_enter func177,ntmps177
 go_wp2_with (first
  | (go_at_call 104;refine hkA G fun g=>?_)
  | (go_at_call 186;refine hkA H fun U=>?_))
 refine bo1 results177 (rd_dv (by rfl) ?_) ⟨rfl,grA⟩;simp[go_sem]
end
section
attribute [local go_sem ↓] uz3
attribute [local go_sem] uz4 ones_nw
attribute [local go_sem ↓] Go.wp_at_zero Go.wp_at_succ
theorem mul_pwj(a b k j:Nat)(h:j=k+k)(ha:a<pw k)(hb:b<pw k):a*b<pw j:=by
 subst h;rw[pw_add];exact Nat.mul_lt_mul_of_lt_of_lt ha hb
theorem splitD(W m D n u:Nat)(hd:Dv m D n u)(hW:W<pw 18)(w:World):
 Cg 187 #[.agg (dv D (n+1) u),.agg (nw 18 W)] w (.tuple #[.agg (nw 18 (W/m)),.agg (nw 9 (W%m))]):=by
 refine(split_any W D n u w hW hd.u64 hd.n9 hd.lt hd.top hd.low).mono ?_;rintro e q ⟨Q,V,rfl,d,f,h⟩;obtain⟨i,j⟩:=split_end W D (2^u) Q V m hd.eq (Nat.two_pow_pos u) d f;exact⟨by rw[i,j],h⟩
theorem restD(W m D n u:Nat)(hd:Dv m D n u)(hW:W<pw 18)(w:World):
 Cg 178 #[.agg (dv D (n+1) u),.agg (nw 18 W)] w (.agg (nw 9 (W%m))):=by
 have f:=fun w=>splitD W m D n u hd hW w;obtain⟨Q,i⟩:=exl (W/m);obtain⟨R,h⟩:=exl (W%m);rw[h];rw[i,h]at f;have d:Hid _:=f
 go_enter func178,ntmps178
 go_wp2_with (go_at_call 187;refine hkA d fun g=>?_)
 refine bo1 results178 (rd_nat (by rfl) ?_) ⟨rfl,grA⟩;simp[go_sem]
theorem notZero(m:Nat)(h0:0<m)(hM:m<M)(w:World):Cg 175 #[.agg (nw 9 m)] w (.bool false):=by
 have:=isZero_any m hM w;rw[decide_eq_false (by omega)]at this;exact this
theorem mod_any(W m:Nat)(h0:0<m)(hM:m<M)(hW:W<pw 18)(w:World):
 Cg 173 #[.agg (nw 18 W),.agg (nw 9 m)] w (.tuple #[.agg (nw 9 (W%m)),.int .i64 0]):=by
 have h:Hid _:=notZero m h0 hM;obtain⟨D,n,u,i,j⟩:=divisorOf_any m h0 hM;have q:Hid _:=j;have d:=fun w=>restD W m D n u i hW w;obtain⟨R,f⟩:=exl (W%m);rw[f];rw[f]at d;have x:Hid _:=d
 go_enter func173,ntmps173
 go_wp2_with (go_at_call 175;refine hkA h fun g=>?_)
 go_region_with (first
  | (go_at_call 177;refine hkA q fun A=>?_)
  | (go_at_call 178;refine hkA x fun B=>?_))
 all_goals
  go_wp2_with fail
  refine bo2 results173 (rd_nat (by rfl) ?_) ⟨rfl,grA⟩;simp[go_sem]
theorem lt18(a:Nat)(ha:a<M):a<pw 18:=Nat.lt_of_lt_of_le ha (pw_up 9 18 (by decide))
theorem div_lt(a m:Nat)(ha:a<M):a/m<M:=Nat.lt_of_le_of_lt (Nat.div_le_self a m) ha
end
section
attribute [local go_sem ↓] uz3
attribute [local go_sem] uz4 ones_nw
attribute [local go_sem ↓] Go.wp_at_zero Go.wp_at_succ
attribute [local go_sem] blk_other
theorem pow_mul(x a m:Nat):x%m*a%m=x*a%m:=Nat.mod_mul_mod x a m
structure PW(w v:World)(a e P D n u b8 b9:Nat):Prop where
 g:Gr w v
 ha:blk v (w.heap.size)=nw 9 a
 pa:Pre (w.heap.size+1) v.heap.size
 he:blk v (w.heap.size+1)=nw 9 e
 pe:Pre (w.heap.size+1+1) v.heap.size
 hr:blk v (w.heap.size+1+1+1)=nw 9 0
 fr:frz v (w.heap.size+1+1+1)=(0,0)
 pr:Pre (w.heap.size+1+1+1+1) v.heap.size
 h8:blk v b8=dv D (n+1) u
 p8:Pre (b8+1) v.heap.size
 h9:blk v b9=nw 9 P
 f9:frz v b9=(0,0)
 p9:Pre (b9+1) v.heap.size
 q9:w.heap.size+1+1+1+1≤b9
 q8:b8<b9
theorem PW.gr{w v v':World}{a e P D n u b8 b9:Nat}(h:PW w v a e P D n u b8 b9)(k:Gr v v'):PW w v' a e P D n u b8 b9:=by
 have f:=k.below.size;have d:∀{x},Pre x v.heap.size→Pre x v'.heap.size:=fun h=>Nat.le_trans h f
 exact⟨h.g.trans k,by rw[k.blk _ h.pa];exact h.ha,d h.pa,by rw[k.blk _ h.pe];exact h.he,d h.pe,by rw[k.blk _ h.pr];exact h.hr,by rw[k.frz _ h.pr];exact h.fr,d h.pr,
  by rw[k.blk _ h.p8];exact h.h8,d h.p8,by rw[k.blk _ h.p9];exact h.h9,by rw[k.frz _ h.p9];exact h.f9,d h.p9,h.q9,h.q8⟩
theorem PW.set{w v:World}{a e P D n u b8 b9:Nat}(h:PW w v a e P D n u b8 b9)(Q:Nat):PW w (setBlk v b9 (nw 9 Q)) a e Q D n u b8 b9:=by
 have q:=h.q9;have f:=h.q8
 have d:∀{x},Pre x v.heap.size→Pre x (setBlk v b9 (nw 9 Q)).heap.size:=fun h=>by rw[size_setBlk];exact h
 exact⟨gr_setNew h.g (by omega),by rw[blk_other _ _ _ _ (by omega)];exact h.ha,d h.pa,by rw[blk_other _ _ _ _ (by omega)];exact h.he,d h.pe,by rw[blk_other _ _ _ _ (by omega)];exact h.hr,by rw[frz_setBlk];exact h.fr,d h.pr,
  by rw[blk_other _ _ _ _ (by omega)];exact h.h8,d h.p8,blk_setBlk _ _ _ (by rw[h.h9,nw_size];decide),by rw[frz_setBlk];exact h.f9,d h.p9,h.q9,h.q8⟩
theorem pow_zero(a e:Nat)(w:World):
 Cg 188 #[.agg (nw 9 a),.agg (nw 9 e),.agg (nw 9 0)] w (.tuple #[.agg (nw 9 0),.int .i64 400]):=by
 have d:Hid _:=isZero_any 0 M_pos
 go_enter func188,ntmps188
 go_wp2_with (go_at_call 175;refine hkA d fun g=>?_)
 refine bo2 results188 (rd_nat (by rfl) ?_) ⟨rfl,grA⟩;simp[go_sem]
end
section
attribute [local go_sem ↓] uz3
attribute [local go_sem] uz4 ones_nw
attribute [local go_sem ↓] uz6 Go.wp_at_zero Go.wp_at_succ
attribute [local go_sem] loadMd storeMd buildMd0 buildMd1
theorem fadd_any(m a b:Nat)(ha:a<m)(hb:b<m)(hm:m+m≤M)(w:World):
 Cg 161 #[.agg (nw 9 m),.agg (nw 9 a),.agg (nw 9 b)] w (.agg (nw 9 ((a+b)%m))):=by
 obtain⟨S,i⟩:=exl (a+b)
 have f:S<M:=by omega
 have q:Hid _:=fun w=>by
  have:=add_any a b (by omega) (by omega) w;rw[i,Nat.mod_eq_of_lt f,decide_eq_false (by omega)]at this;exact this
 obtain⟨D,j⟩:=exl ((S+M-m)%M);have h:=fun w=>sub_any S m f (by omega) w
 by_cases hl:S<m
 ·rw[j,decide_eq_true hl]at h;have d:Hid _:=h
  have e:(a+b)%m=S:=by rw[i];exact Nat.mod_eq_of_lt hl
  rw[e]
  go_enter func161,ntmps161
  go_wp2_with (first
   | (go_at_call 166;refine hkA q fun g=>?_)
   | (go_at_call 85;refine hkA d fun x=>?_))
  refine bo1 results161 (rd_nat (by rfl) ?_) ⟨rfl,grA⟩;simp[go_sem]
 ·rw[j,decide_eq_false hl]at h;have d:Hid _:=h
  have e:(a+b)%m=D:=by
   rw[i,←j,show S+M-m=(S-m)+M by omega,Nat.add_mod_right,Nat.mod_eq_of_lt (show S-m<M by omega),Nat.mod_eq_sub_mod (by omega),Nat.mod_eq_of_lt (by omega)]
  rw[e]
  go_enter func161,ntmps161
  go_wp2_with (first
   | (go_at_call 166;refine hkA q fun g=>?_)
   | (go_at_call 85;refine hkA d fun x=>?_))
  refine bo1 results161 (rd_nat (by rfl) ?_) ⟨rfl,grA⟩;simp[go_sem]
theorem fsub_any(m a b:Nat)(ha:a<m)(hb:b<m)(hm:m+m≤M)(w:World):
 Cg 162 #[.agg (nw 9 m),.agg (nw 9 a),.agg (nw 9 b)] w (.agg (nw 9 ((a+m-b)%m))):=by
 obtain⟨D,f⟩:=exl ((a+M-b)%M)
 have i:D<M:=by rw[←f];exact Nat.mod_lt _ M_pos
 have h:=fun w=>sub_any a b (by omega) (by omega) w
 by_cases hl:a<b
 ·rw[f,decide_eq_true hl]at h;have d:Hid _:=h;obtain⟨E,j⟩:=exl ((D+m)%M);obtain⟨β,q⟩:=exl (decide (M≤D+m))
  have x:Hid _:=fun w=>by
   have:=add_any D m i (by omega) w;rw[j,q]at this;exact this
  have e:(a+m-b)%m=E:=by
   rw[Nat.mod_eq_of_lt (show a+M-b<M by omega)]at f;rw[←j,←f,show a+M-b+m=(a+m-b)+M by omega,Nat.add_mod_right,Nat.mod_eq_of_lt (show a+m-b<m by omega),Nat.mod_eq_of_lt (show a+m-b<M by omega)]
  rw[e]
  go_enter func162,ntmps162
  go_wp2_with (first
   | (go_at_call 166;refine hkA x fun g=>?_)
   | (go_at_call 85;refine hkA d fun A=>?_))
  refine bo1 results162 (rd_nat (by rfl) ?_) ⟨rfl,grA⟩;simp[go_sem]
 ·rw[f,decide_eq_false hl]at h;have d:Hid _:=h
  have e:(a+m-b)%m=D:=by
   rw[←f,show a+M-b=(a-b)+M by omega,Nat.add_mod_right,show a+m-b=(a-b)+m by omega,Nat.add_mod_right,Nat.mod_eq_of_lt (show a-b<m by omega),Nat.mod_eq_of_lt (show a-b<M by omega)]
  rw[e]
  go_enter func162,ntmps162
  go_wp2_with (go_at_call 85;refine hkA d fun A=>?_)
  refine bo1 results162 (rd_nat (by rfl) ?_) ⟨rfl,grA⟩;simp[go_sem]
theorem fred_any(m W:Nat)(h0:0<m)(hM:m<M)(hW:W<pw 18)(w:World):
 Cg 167 #[.agg (nw 9 m),.agg (nw 18 W)] w (.agg (nw 9 (W%m))):=by
 have f:=fun w=>mod_any W m h0 hM hW w;obtain⟨R,h⟩:=exl (W%m);rw[h]at f ⊢;have d:Hid _:=f
 go_enter func167,ntmps167
 go_wp2_with (go_at_call 173;refine hkA d fun i=>?_)
 refine bo1 results167 (rd_nat (by rfl) ?_) ⟨rfl,grA⟩;simp[go_sem]
theorem fmul_any(m a b:Nat)(h0:0<m)(hM:m<M)(ha:a<M)(hb:b<M)(w:World):
 Cg 163 #[.agg (nw 9 m),.agg (nw 9 a),.agg (nw 9 b)] w (.agg (nw 9 (a*b%m))):=by
 have d:=fun w=>fred_any m (a*b) h0 hM (mul_pwj a b 9 18 rfl ha hb) w;have i:=fun w=>mul_any a b ha hb w;obtain⟨R,j⟩:=exl (a*b%m);obtain⟨X,q⟩:=exl (a*b);rw[j]at d ⊢;rw[q]at d i;have f:Hid _:=d;have h:Hid _:=i
 go_enter func163,ntmps163
 go_wp2_with fail
 go_region_with (first
  | (go_at_call 168;refine hkA h fun g=>?_)
  | (go_at_call 167;refine hkA f fun x=>?_))
 all_goals
  go_wp2_with fail
  refine bo1 results163 (rd_nat (by rfl) ?_) ⟨rfl,grA⟩;simp[go_sem]
end
section
attribute [local go_sem ↓] uz3
attribute [local go_sem] uz4 ones_nw
attribute [local go_sem ↓] uz6 Go.wp_at_zero Go.wp_at_succ
attribute [local go_sem] loadMd storeMd buildMd0 buildMd1 blk_other
structure Cl(v:World)(b x:Nat):Prop where
 h:blk v b=nw 9 x
 f:frz v b=(0,0)
 p:Pre (b+1) v.heap.size
theorem Cl.gr{v v':World}{b x:Nat}(h:Cl v b x)(k:Gr v v'):Cl v' b x:=
 ⟨by rw[k.blk _ h.p];exact h.h,by rw[k.frz _ h.p];exact h.f,Nat.le_trans h.p k.below.size⟩
theorem Cl.set{v:World}{b x:Nat}(h:Cl v b x)(y:Nat):Cl (setBlk v b (nw 9 y)) b y:=
 ⟨blk_setBlk _ _ _ (by rw[h.h,nw_size];decide),by rw[frz_setBlk];exact h.f,by rw[size_setBlk];exact h.p⟩
theorem Cl.other{v:World}{b c x:Nat}{d:Array Value}(h:Cl v c x)(n:b≠c):Cl (setBlk v b d) c x:=
 ⟨by rw[blk_other _ _ _ _ n];exact h.h,by rw[frz_setBlk];exact h.f,by rw[size_setBlk];exact h.p⟩
end
end
end Go.Proofs.YtffhepbppiocbacGreat