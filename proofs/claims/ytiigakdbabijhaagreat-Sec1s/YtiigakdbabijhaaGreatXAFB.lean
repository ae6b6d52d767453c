import Derived.Deep.RegionLaw
import Derived.Deep.DrawnRows
import Derived.Test.YtiigakdbabijhaaGreatXADC
import Derived.Test.YtiigakdbabijhaaGreatXAShr
import Derived.Test.YtiigakdbabijhaaGreatXALawA
namespace Go.Proofs.YtiigakdbabijhaaGreat
open Go.RowKit Go.Proofs.Tryz
set_option maxRecDepth 100000
set_option maxHeartbeats 8000000
section
attribute [local go_sem ↓] uz1
attribute [local go_sem] uz2
section
attribute [local go_sem ↓] uz3
attribute [local go_sem] uz4 ones_nw
attribute [local go_sem ↓] Go.wp_at_zero Go.wp_at_succ
theorem pw_up(i k:Nat)(h:i≤k):pw i≤pw k:=Nat.pow_le_pow_right (by decide) (by omega)
theorem split_start(W D n u m:Nat)(hU:Used W m)(hu:u<64)(hT:9223372036854775808≤wd D n)(hD:D<pw (n+1))(hB:pw n*2^u≤D):W*2^u<D*pw (m-n):=by
 obtain⟨q,f,v⟩:=hU;have h:=Nat.two_pow_pos u
 by_cases hm:m≤n
 ·rw[show m-n=0 by omega,pw_zero,Nat.mul_one];have i:pw m≤pw n:=Nat.pow_le_pow_right (by decide) (by omega);have d:W*2^u<pw n*2^u:=Nat.mul_lt_mul_of_pos_right (by omega) h
  omega
 ·obtain⟨j,rfl⟩:∃j,m=n+j:=⟨m-n,by omega⟩;rw[show n+j-n=j by omega]
  have i:9223372036854775808*pw n≤D:=by
   have d:=Nat.div_mul_le_self D (pw n);rw[top_one D n hD]at d;exact Nat.le_trans (Nat.mul_le_mul_right _ hT) d
  have l:2^u≤9223372036854775808:=by
   have:=Nat.pow_le_pow_right (n:=2) (by decide) (show u≤63 by omega);exact this
  rw[pw_add]at f;have x:=Nat.mul_lt_mul_of_pos_right f h;have A:pw n*pw j*2^u≤pw n*pw j*9223372036854775808:=Nat.mul_le_mul_left _ l;have B:9223372036854775808*pw n*pw j≤D*pw j:=Nat.mul_le_mul_right _ i
  have e:pw n*pw j*9223372036854775808=9223372036854775808*pw n*pw j:=by grind
  omega
theorem q_set(H i t:Nat)(ht:t<18446744073709551616):(nw 18 (H*pw (i+1))).setIfInBounds i (Value.int .u64 t)=nw 18 ((H*18446744073709551616+t)*pw i):=by
 rw[nw_set_low 18 H i t ht];refine congrArg (nw 18) ?_;rw[pow_succ64]
 grind
theorem q_next(X V D H i t Z:Nat)(h:X=V+D*(H*pw (i+1)))(hz:Z+t*(D*pw i)=V):X=Z+D*((H*18446744073709551616+t)*pw i):=by
 rw[pow_succ64]at h;generalize pw i=P at *
 grind
theorem slice19(b l h:Nat)(hl:l<h)(hh:h≤19)(w:World):(Instr.sliceAt 169 (.pointer (some ⟨b,0,none⟩)) (some (.int .i64 l)) (some (.int .i64 h)) none).run prog w=.ok (.slice (some ⟨b,l,none⟩) (h-l) (19-l)) w:=by
 have d:(prog.info? 22).map (·.size)=some 1:=by kernel_rfl
 have f:prog.arrayLen 169=19:=by kernel_rfl
 have j:prog.elem 169=22:=by kernel_rfl
 rw[run_sliceAt_array_lh w 169 ⟨b,0,none⟩ (by kernel_rfl) .i64 .i64 (l:Int) (h:Int) (by omega) (by omega) (by rw[f];omega),j,f]
 cases hq:prog.info? 22 with
 | none=>rw[hq]at d;cases d
 | some i=>
  have q:i.size=1:=by simpa [hq]using d
  have v:¬19=l:=by omega
  simp[sizeOf,typeInfo,hq,q,slicedAt,v,Addr.add,Result.andThen];exact fun h=>h.symm
theorem slice9(b h:Nat)(hh:h<9)(w:World):(Instr.sliceAt 23 (.pointer (some ⟨b,0,none⟩)) none (some (.int .i64 ((h:Int)+1))) none).run prog w=.ok (.slice (some ⟨b,0,none⟩) (h+1) 9) w:=by
 have d:(prog.info? 22).map (·.size)=some 1:=by kernel_rfl
 have f:prog.arrayLen 23=9:=by kernel_rfl
 have j:prog.elem 23=22:=by kernel_rfl
 have l:((h:Int)+1).toNat=h+1:=by omega
 rw[run_sliceAt_array_h w 23 ⟨b,0,none⟩ (by kernel_rfl) .i64 ((h:Int)+1) (by omega) (by rw[f];omega),j,f,l]
 cases hq:prog.info? 22 with
 | none=>rw[hq]at d;cases d
 | some i=>simp[sizeOf,typeInfo,hq,slicedAt,Addr.add,Result.andThen]
def Spl(w:World)(X D u:Nat)(e:Ending)(w':World):Prop:=∃Q V,e=.returned (.tuple #[.agg (nw 18 Q),.agg (nw 9 (V/2^u))])∧X=V+D*Q∧V<D∧Gr w w'
theorem split_any(W D n u:Nat)(w:World)(hW:W<pw 18)(hu:u<64)(hn:n<9)(hD:D<pw (n+1))(hT:9223372036854775808≤wd D n)(hB:pw n*2^u≤D):
 Calls prog 128 #[.agg (dv D (n+1) u),.agg (nw 18 W)] w (Spl w (W*2^u) D u):=by
 have HM:Hid _:=moveUp_any W u hW hu;have HU:Hid _:=used_any W hW;have HT:Hid _:=fun i V b c w f h2 h3=>takeOut_any D n u i V b c w hn hD hT h2 h3 f;have l:Hid _:=fun m h=>split_start W D n u m h hu hT hD hB;have L:Hid _:=fun V w hV=>shr_any V u (Nat.lt_of_lt_of_le (Nat.lt_trans hV hD) (pw_up (n+1) 9 (by omega))) (by omega) w;have P:Hid (∀V,V<D→V%pw (n+1)=V):=fun V h=>Nat.mod_eq_of_lt (Nat.lt_trans h hD);have J:Hu (_):=fun _=>hn
 have n0:(0:Int)≤n:=by omega
 have n1:(n:Int)<9:=by omega
 clear hW hu hn hD hT hB
 go_enter func128,ntmps128
 go_upto_region 3 with (go_at_call 133;refine hkA HM fun g=>?_)
 go_cut [8] from 14 to 18 (fun a wx=>∃(x:Int) (m:Nat),a=.int .i64 x∧Hid (x=(m:Int)-((n:Int)+1))∧Hu (Used W m)∧∃k,wx=gro ((gro (((((w.alloc (.cells (dv D (n+1) u) 152)).alloc (.cells (nw 18 W) 145)).alloc (.cells (nw 18 0) 145)).alloc (.cells (nw 9 0) 25)).alloc (.cells (nw 18 0) 145)) g).alloc (.cells (nw 19 (W*2^u)) 169)) k)
 case first=>
  go_region_with (go_at_call 134;refine(HU.out _).mono ?_;rintro e w' ⟨m,rfl,hm,rfl⟩)
  all_goals
   have m1:(m:Int)≤18:=by have:=hm.1;omega
   have m0:(0:Int)≤m:=by omega
  all_goals
   go_wp2_with fail
  all_goals
   go_meet
   refine⟨_,m,rfl,?_,fun _=>hm,?_⟩
   ·show IntKind.i64.wrap ((m:Int)-((n:Int)+1))=(m:Int)-((n:Int)+1)
    rw[IntKind.wrap_i64];omega
   ·exact((Gr.refl _).alloc _).drew
 case rest=>
  obtain⟨x,m,rfl,HX,v,k,rfl⟩:=hcut;have d:=l.out m (v.out ());obtain⟨X,S⟩:=exl (W*2^u);rw[S]at d ⊢;have U:Hu (_):=fun _=>d;have Y:Hu (_):=fun _=>S;clear d S HM HU l
  go_wp2_with fail
  go_loopw [8] (fun a wr=>∃(j H V:Nat) (y:Int),a=.int .i64 y∧Hid ((y+1).toNat=j ∧ -20<y∧j+n≤18)∧Hu (V<D*pw j∧X=V+D*(H*pw j))∧∃k,wr=gro ((gro (((((w.alloc (.cells (dv D (n+1) u) 152)).alloc (.cells (nw 18 W) 145)).alloc (.cells (nw 18 0) 145)).alloc (.cells (nw 9 0) 25)).alloc (.cells (nw 18 (H*pw j)) 145)) g).alloc (.cells (nw 19 V) 169)) k) (fun a _=>(intOf a+1).toNat)
  case atStart=>
   have f:=HX.out;have h2:=(v.out ()).1;have h3:=J.out ();exact⟨m-n,0,X,x,rfl,⟨by omega,by omega,by omega⟩,fun _=>⟨U.out (),by simp⟩,k,by rw[Nat.zero_mul]⟩
  case round=>
   obtain⟨j,H,V,y,rfl,HY,HV,k2,rfl⟩:=hrel
   by_cases hj:0<j
   ·obtain⟨i,rfl⟩:∃i,j=i+1:=⟨j-1,by omega⟩;obtain⟨y1,y2,y3⟩:=HY.out
    obtain rfl:y=(i:Int):=by omega
    have i0:(0:Int)≤i:=by omega
    have i1:(i:Int)<18:=by omega
    obtain⟨q,hq⟩:=exl (i+(n+1+1))
    have i2:IntKind.i64.wrap ((i:Int)+((n:Int)+1))=(i:Int)+((n:Int)+1):=by rw[IntKind.wrap_i64];omega
    have i3:IntKind.i64.wrap ((i:Int)+((n:Int)+1)+1)=(q:Int):=by rw[IntKind.wrap_i64];omega
    have aa:∀(b:Nat) w,(Instr.sliceAt 169 (.pointer (some ⟨b,0,none⟩)) (some (.int .i64 i)) (some (.int .i64 q)) none).run prog w=.ok (.slice (some ⟨b,i,none⟩) (n+1+1) (19-i)) w:=fun b w=>by
     rw[slice19 b i q (by omega) (by omega) w,show q-i=n+1+1 by omega]
    have HQ:Hu (i+(n+1+1)≤19):=fun _=>by omega
    clear y1 y2 y3 HX hq
    go_wp2_with fail
    have hv:=(HV.out ()).1;have gq:=nw_get 18 (H*pw (i+1)) i (by have:=HQ.out ();omega);have ab:Hu (_):=fun _=>hv;clear hv
    go_region_with (go_at_call 135;refine(HT.out i V _ _ _ (HQ.out ()) ?_ (ab.out ())).mono ?_;exact⟨by simp[go_sem],by simp[go_sem],by simp[go_sem]⟩;rintro e w' ⟨A,Z,rfl,B,⟨k3,rfl⟩,hz,C⟩)
    all_goals
     have HZ:Hu (A<18446744073709551616∧Z<D*pw i∧Z+A*(D*pw i)=V):=fun _=>⟨B,hz,C⟩;clear B hz C gq aa i2 i3
     go_wp2_with fail
     go_roundw
     case rel=>
      have hh:=HZ.out ();have hq:=HQ.out ();exact⟨i,H*18446744073709551616+A,Z,(i:Int)-1,rfl,⟨by omega,by omega,by omega⟩,fun _=>⟨hh.2.1,q_next X V D H i A Z (HV.out ()).2 hh.2.2⟩,_,by rw[q_set H i A hh.1]⟩
     case measure=>simp[intOf]
   ·obtain rfl:j=0:=by omega
    have yn:¬(0:Int)≤y:=by have:=HY.out.1;omega
    have ae:y<0:=by omega
    obtain⟨Q,hQ⟩:=exl (H*pw 0);rw[hQ]
    have K:Hu (V<D∧X=V+D*Q):=fun _=>by
     have f:=HV.out ();rw[pw_zero,Nat.mul_one]at f;rw[←hQ,pw_zero];exact f
    have af:min 19 (n+1)=n+1:=by have:=J.out ();omega
    have ag:n+1≤9:=by have:=J.out ();omega
    have ac:n+1≤19:=by omega
    have ah:nw 9 (V%pw (n+1))=nw 9 V:=by rw[P.out V (K.out ()).1]
    have ai:=fun b w=>slice9 b n (J.out ()) w;obtain⟨R,hR⟩:=exl (V/2^u);have G:=fun w=>L.out V w (K.out ()).1;rw[hR]at G;have I:Hid _:=G;have HR:Hu (_):=fun _=>hR
    go_wp2_with fail
    go_big_region
    go_wp2_with (go_at_call 119;refine hkA I fun k4=>?_)
    go_big_region
    go_wp2_with fail
    refine bodyPost_ret (res_two results128 (rd_wide (by rfl) ?_) (rd_nat (by rfl) ?_)) rfl ⟨Q,V,by rw[HR.out ()],(Y.out ()).trans (K.out ()).2,(K.out ()).1,grA⟩
    ·simp[go_sem]
    ·simp[go_sem]
end
section
attribute [local go_sem ↓] uz3
attribute [local go_sem] uz4 ones_nw
structure Dv(m D n u:Nat):Prop where
 n9:n<9
 u64:u<64
 eq:D=m*2^u
 lt:D<pw (n+1)
 top:9223372036854775808≤wd D n
 low:pw n*2^u≤D
theorem bl_pwk(m k:Nat)(h:m<pw k):bl m≤64*k:=(bl_le m (64*k)).2 h
theorem bl_facts(m s:Nat)(h0:0<m)(hs:bl m=s):1≤s∧m<2^s∧2^(s-1)≤m:=by
 have d:=(bl_le m s).1 (by omega)
 have f:1≤s:=by
  by_cases hc:s=0
  ·grind
  ·omega
 refine⟨f,d,?_⟩
 by_cases hc:m<2^(s-1)
 ·have:=(bl_le m (s-1)).2 hc
  omega
 ·omega
theorem dv_of(m s n u:Nat)(hs1:1≤s)(hs9:s≤64*9)(h1:m<2^s)(h2:2^(s-1)≤m)(hn:n+1=(s+63)/64)(hu:u=64*(n+1)-s):Dv m (m*2^u) n u:=by
 have d:=Nat.two_pow_pos u
 have f:pw (n+1)=2^s*2^u:=by
  unfold pw;rw[←Nat.pow_add]
  congr 1
  omega
 have h:9223372036854775808*pw n=2^(s-1)*2^u:=by
  unfold pw;rw[←Nat.pow_add,show s-1+u=63+64*n by omega,Nat.pow_add]
 have lt:m*2^u<pw (n+1):=by rw[f];exact Nat.mul_lt_mul_of_pos_right h1 d
 refine⟨by omega,by omega,rfl,lt,?_,?_⟩
 ·rw[←top_one _ n lt,Nat.le_div_iff_mul_le (pw_pos n),h];exact Nat.mul_le_mul_right _ h2
 ·refine Nat.mul_le_mul_right _ (Nat.le_trans ?_ h2);exact Nat.pow_le_pow_right (by decide) (by omega)
theorem pw_le_M(n:Nat)(h:n≤9):pw n≤M:=pw_up n 9 h
theorem buildDv_is(p:Array (Nat×Value)):Instr.build 152 p=buildS 152 p:=rfl
theorem buildDv(D:Nat)(x y:Int)(w:World):(buildS 152 #[(0,.agg (nw 9 D)),(1,.int .i64 x),(2,.int .i64 y)]).run prog w=.ok (.agg (nw 9 D ++ #[.int .i64 x,.int .i64 y])) w:=by
 kernel_rfl
theorem dv_app(D n u:Nat):nw 9 D ++ #[.int .i64 ((n:Int)+1),.int .i64 u]=dv D (n+1) u:=rfl
attribute [local go_sem ↓] buildDv_is
attribute [local go_sem] buildDv dv_app
theorem divisorOf_any(m:Nat)(h0:0<m)(hM:m<M):
 ∃D n u,Dv m D n u∧∀w,Cg 115 #[.agg (nw 9 m)] w (.agg (dv D (n+1) u)):=by
 obtain⟨s,q⟩:=exl (bl m);obtain⟨f,h,i⟩:=bl_facts m s h0 q
 have j:s≤64*9:=by rw[←q];exact bl_pwk m 9 hM
 obtain⟨n,x⟩:∃n,n+1=(s+63)/64:=⟨(s+63)/64-1,by omega⟩;obtain⟨u,A⟩:∃u,u=64*(n+1)-s:=⟨_,rfl⟩;have d:=dv_of m s n u f j h i x A;obtain⟨D,v⟩:=exl (m*2^u);rw[v]at d;have l:=Nat.lt_of_lt_of_le d.lt (pw_le_M (n+1) (by have:=d.n9;omega))
 have B:Hid _:=fun w=>by
  have:=bits_any m hM w;rw[q]at this;exact this
 have C:Hid _:=fun w=>by
  have:=shl_any m u (by have:=d.u64;omega) w;rw[v,Nat.mod_eq_of_lt l]at this;exact this
 have J:(0:Int)≤s:=by omega
 have K:(s:Int)≤576:=by omega
 obtain⟨p,G⟩:=exl (s+63)
 have L:(s:Int)+64-1=p:=by omega
 have H:(p:Int)/64=n+1:=by omega
 have P:((n:Int)+1)*64-(s:Int)=u:=by omega
 have I:Hid _:=d;refine⟨D,n,u,d,fun w=>?_⟩;clear G d I l v A x j f q h0 hM h i
 go_enter func115,ntmps115
 go_wp2_with (first
  | (go_at_call 66;refine hkA B fun g=>?_)
  | (go_at_call 127;refine hkA C fun Q=>?_))
 refine bo1 results115 (rd_dv (by rfl) ?_) ⟨rfl,grA⟩;simp[go_sem]
end
section
attribute [local go_sem ↓] uz3
attribute [local go_sem] uz4 ones_nw
attribute [local go_sem ↓] Go.wp_at_zero Go.wp_at_succ
theorem mul_pwj(a b k j:Nat)(h:j=k+k)(ha:a<pw k)(hb:b<pw k):a*b<pw j:=by
 subst h;rw[pw_add];exact Nat.mul_lt_mul_of_lt_of_lt ha hb
theorem splitD(W m D n u:Nat)(hd:Dv m D n u)(hW:W<pw 18)(w:World):
 Cg 128 #[.agg (dv D (n+1) u),.agg (nw 18 W)] w (.tuple #[.agg (nw 18 (W/m)),.agg (nw 9 (W%m))]):=by
 refine(split_any W D n u w hW hd.u64 hd.n9 hd.lt hd.top hd.low).mono ?_;rintro e l ⟨Q,V,rfl,d,f,h⟩;obtain⟨i,j⟩:=split_end W D (2^u) Q V m hd.eq (Nat.two_pow_pos u) d f;exact⟨by rw[i,j],h⟩
theorem restD(W m D n u:Nat)(hd:Dv m D n u)(hW:W<pw 18)(w:World):
 Cg 116 #[.agg (dv D (n+1) u),.agg (nw 18 W)] w (.agg (nw 9 (W%m))):=by
 have f:=fun w=>splitD W m D n u hd hW w;obtain⟨Q,i⟩:=exl (W/m);obtain⟨R,h⟩:=exl (W%m);rw[h];rw[i,h]at f;have d:Hid _:=f
 go_enter func116,ntmps116
 go_wp2_with (go_at_call 128;refine hkA d fun g=>?_)
 refine bo1 results116 (rd_nat (by rfl) ?_) ⟨rfl,grA⟩;simp[go_sem]
theorem notZero(m:Nat)(h0:0<m)(hM:m<M)(w:World):Cg 113 #[.agg (nw 9 m)] w (.bool false):=by
 have:=isZero_any m hM w;rw[decide_eq_false (by omega)]at this;exact this
theorem mod_any(W m:Nat)(h0:0<m)(hM:m<M)(hW:W<pw 18)(w:World):
 Cg 124 #[.agg (nw 18 W),.agg (nw 9 m)] w (.tuple #[.agg (nw 9 (W%m)),.int .i64 0]):=by
 have h:Hid _:=notZero m h0 hM;obtain⟨D,n,u,i,j⟩:=divisorOf_any m h0 hM;have l:Hid _:=j;have d:=fun w=>restD W m D n u i hW w;obtain⟨R,f⟩:=exl (W%m);rw[f];rw[f]at d;have q:Hid _:=d
 go_enter func124,ntmps124
 go_wp2_with (go_at_call 113;refine hkA h fun g=>?_)
 go_region_with (first
  | (go_at_call 115;refine hkA l fun v=>?_)
  | (go_at_call 116;refine hkA q fun x=>?_))
 all_goals
  go_wp2_with fail
  refine bo2 results124 (rd_nat (by rfl) ?_) ⟨rfl,grA⟩;simp[go_sem]
theorem mul_lt18(a b:Nat)(ha:a<M)(hb:b<M):a*b<pw 18:=mul_pwj a b 9 18 rfl ha hb
theorem lt18(a:Nat)(ha:a<M):a<pw 18:=Nat.lt_of_lt_of_le ha (pw_up 9 18 (by decide))
end
section
attribute [local go_sem ↓] uz3
attribute [local go_sem] uz4 ones_nw
attribute [local go_sem ↓] Go.wp_at_zero Go.wp_at_succ
attribute [local go_sem] blk_other
theorem Gr.frz0{w v:World}(h:Gr w v)(b:Nat)(hb:b<w.heap.size)(hf:Go.Proofs.YtiigakdbabijhaaGreat.frz w b=(0,0)):Go.Proofs.YtiigakdbabijhaaGreat.frz v b=(0,0):=by rw[h.frz b hb];exact hf
end
section
attribute [local go_sem ↓] uz3
attribute [local go_sem] uz4 ones_nw
attribute [local go_sem ↓] Go.wp_at_zero Go.wp_at_succ
attribute [local go_sem] blk_other
theorem pow_half(a e i:Nat):a^(e/2^i)=a^(e/2^(i+1))*a^(e/2^(i+1))*a^bitN e i:=by
 have h:e/2^i=e/2^(i+1)+e/2^(i+1)+bitN e i:=by
  unfold bitN;rw[Nat.pow_succ,←Nat.div_div_eq_div_mul]
  omega
 simp_all [Nat.pow_add]
theorem pow_sq(x m:Nat):x%m*(x%m)%m=x*x%m:=(Nat.mul_mod x x m).symm
theorem pow_mul(x a m:Nat):x%m*a%m=x*a%m:=Nat.mod_mul_mod x a m
structure PW(w v:World)(a e P D n u b8 b9:Nat):Prop where
 g:Gr w v
 ha:blk v (w.heap.size)=nw 9 a
 pa:Pre (w.heap.size+1) v.heap.size
 he:blk v (w.heap.size+1)=nw 9 e
 pe:Pre (w.heap.size+1+1) v.heap.size
 hr:blk v (w.heap.size+1+1+1)=nw 9 0
 fr:frz v (w.heap.size+1+1+1)=(0,0)
 pr:Pre (w.heap.size+1+1+1+1) v.heap.size
 h8:blk v b8=dv D (n+1) u
 p8:Pre (b8+1) v.heap.size
 h9:blk v b9=nw 9 P
 f9:frz v b9=(0,0)
 p9:Pre (b9+1) v.heap.size
 q9:w.heap.size+1+1+1+1≤b9
 q8:b8<b9
theorem PW.gr{w v v':World}{a e P D n u b8 b9:Nat}(h:PW w v a e P D n u b8 b9)(k:Gr v v'):PW w v' a e P D n u b8 b9:=by
 have f:=k.below.size;have d:∀{x},Pre x v.heap.size→Pre x v'.heap.size:=fun h=>Nat.le_trans h f
 exact⟨h.g.trans k,by rw[k.blk _ h.pa];exact h.ha,d h.pa,by rw[k.blk _ h.pe];exact h.he,d h.pe,by rw[k.blk _ h.pr];exact h.hr,by rw[k.frz _ h.pr];exact h.fr,d h.pr,
  by rw[k.blk _ h.p8];exact h.h8,d h.p8,by rw[k.blk _ h.p9];exact h.h9,by rw[k.frz _ h.p9];exact h.f9,d h.p9,h.q9,h.q8⟩
theorem PW.set{w v:World}{a e P D n u b8 b9:Nat}(h:PW w v a e P D n u b8 b9)(Q:Nat):PW w (setBlk v b9 (nw 9 Q)) a e Q D n u b8 b9:=by
 have q:=h.q9;have f:=h.q8
 have d:∀{x},Pre x v.heap.size→Pre x (setBlk v b9 (nw 9 Q)).heap.size:=fun h=>by rw[size_setBlk];exact h
 exact⟨gr_setNew h.g (by omega),by rw[blk_other _ _ _ _ (by omega)];exact h.ha,d h.pa,by rw[blk_other _ _ _ _ (by omega)];exact h.he,d h.pe,by rw[blk_other _ _ _ _ (by omega)];exact h.hr,by rw[frz_setBlk];exact h.fr,d h.pr,
  by rw[blk_other _ _ _ _ (by omega)];exact h.h8,d h.p8,blk_setBlk _ _ _ (by rw[h.h9,nw_size];decide),by rw[frz_setBlk];exact h.f9,d h.p9,h.q9,h.q8⟩
theorem pow_any(a e m:Nat)(ha:a<M)(he:e<M)(h0:0<m)(hM:m<M)(w:World):
 Calls prog 130 #[.agg (nw 9 a),.agg (nw 9 e),.agg (nw 9 m)] w fun f w'=>f=.returned (.tuple #[.agg (nw 9 (a^e%m)),.int .i64 0])∧Gr w w':=by
 have HZ:Hid _:=notZero m h0 hM;obtain⟨D,n,u,L,hD⟩:=divisorOf_any m h0 hM;have HD:Hid _:=hD;have HO:Hid (∀w,Cg 100 #[.int .i64 1] w (.agg (nw 9 1))):=fun w=>small_any 1 (by decide) w;have HW:Hid (∀w,Cg 117 #[.agg (nw 9 1)] w (.agg (nw 18 1))):=fun w=>widen_any 1 (lt_M 1 (by decide)) w;have HR:Hid (∀X,X<pw 18→∀w,Cg 116 #[.agg (dv D (n+1) u),.agg (nw 18 X)] w (.agg (nw 9 (X%m)))):=fun X hX w=>restD X m D n u L hX w;have av:Hid (∀x y,x<M→y<M→∀w,Cg 111 #[.agg (nw 9 x),.agg (nw 9 y)] w (.agg (nw 18 (x*y)))):=fun x y hx hy w=>mul_any x y hx hy w;obtain⟨I,hI⟩:=exl (1%m)
 have HI:Hid (∀w,Cg 116 #[.agg (dv D (n+1) u),.agg (nw 18 1)] w (.agg (nw 9 I))):=fun w=>by
  have:=restD 1 m D n u L (lt18 1 (lt_M 1 (by decide))) w;rw[hI]at this;exact this
 obtain⟨s,hs⟩:=exl (bl e)
 have HB:Hid (∀w,Calls prog 66 #[.agg (nw 9 e)] w fun f w'=>f=.returned (.int .i64 s)∧Gr w w'):=fun w=>by
  have:=bits_any e he w;rw[hs]at this;exact this
 have aG:s≤576:=by rw[←hs];exact bl_pwk e 9 he
 have aB:Hid (∀i:Nat,i<576→∀w,Calls prog 52 #[.agg (nw 9 e),.int .i64 i] w fun f w'=>f=.returned (.int .i64 (bitN e i))∧Gr w w'):=fun i hi w=>bit_any e i hi w
 have aC:Hu (a^(e/2^s)%m=I):=fun _=>by
  rw[Nat.div_eq_of_lt ((bl_le e s).1 (by omega)),Nat.pow_zero];exact hI
 have aw:Hu (∀x,x%m<M):=fun _ x=>Nat.lt_trans (Nat.mod_lt _ h0) hM;have ax:Hu (_):=fun _=>ha
 have s0:(0:Int)≤s:=by omega
 have s1:(s:Int)≤576:=by omega
 clear ha he h0 hM L hD hI hs
 go_enter func130,ntmps130
 go_wp2_with (first
  | (go_at_call 113;refine hkA HZ fun g=>?_)
  | (go_at_call 115;refine hkA HD fun Q=>?_))
 refine wp_region_mix (by kernel_rfl) (by kernel_rfl) (RG _ (fun i=>match i with|0=>some (.agg (dv D (n+1) u))|1=>some (.agg (nw 9 1))|2=>some (.agg (nw 18 1))|3=>some (.agg (nw 9 I))|_=>none) (fun i=>match i with|4=>some (nw 9 0)|_=>none) (fun i=>match i with|4=>some (5,nw 9 I)|_=>none)) (RG.start _ _ _ _ _ _) ?hs ?hf
 case hs=>
  intro q ay a1 A i o hz d hF ho hl L
  have C:∀(j k:Nat) (r:Array Value),(match j with|4=>some (5,nw 9 I)|_=>(none:Option (Nat×Array Value)))=some (k,r)→(j=4∧k=5):=fun j k r h=>by
   split at h <;> simp_all
  have R:blk A ((w.heap.size+1+1+1+1+(g.os.length+Q.os.length)))=dv D (n+1) u:=(blk_of _ _ _ (d.1.below.block ((w.heap.size+1+1+1+1+(g.os.length+Q.os.length))) (by simp[go_sem] <;> omega))).trans (by simp[go_sem]);have af:blk A (w.heap.size)=nw 9 a:=(blk_of _ _ _ (d.1.below.block (w.heap.size) (by simp[go_sem] <;> omega))).trans (by simp[go_sem]);have ag:blk A (w.heap.size+1)=nw 9 e:=(blk_of _ _ _ (d.1.below.block (w.heap.size+1) (by simp[go_sem] <;> omega))).trans (by simp[go_sem]);have ah:blk A (w.heap.size+1+1+1)=nw 9 0:=(blk_of _ _ _ (d.1.below.block (w.heap.size+1+1+1) (by simp[go_sem] <;> omega))).trans (by simp[go_sem])
  have hi:i<6:=by simpa using (Array.getElem?_eq_some_iff.1 ho).1
  have G:i<q.size:=by rw[hz];simpa using hi
  obtain rfl|rfl|rfl|rfl|rfl|rfl:i=0∨i=1∨i=2∨i=3∨i=4∨i=5:=by omega
  ·obtain rfl:=Option.some.inj ho;have K:=hF.old (s:=8) (v:=.pointer (some ⟨(w.heap.size+1+1+1+1+(g.os.length+Q.os.length)),0,none⟩)) (by kernel_rfl) rfl;exact wp_val (.agg (dv D (n+1) u)) (by simp[go_sem,K,R]) ⟨_,rfl,RG.quiet 0 _ G rfl rfl (fun j k r h=>by have:=C j k r h;omega) (Gr.refl _) d⟩
  ·obtain rfl:=Option.some.inj ho;exact wp_ret (.agg (nw 9 1)) (by simp[go_sem]) (HO.out _) (fun w2 H=>⟨_,rfl,RG.quiet 1 _ G rfl rfl (fun j k r h=>by have:=C j k r h;omega) H d⟩)
  ·obtain rfl:=Option.some.inj ho;have W:=L ⟨1,.data⟩ (by simp) rfl;have K:=hF.at (s:=17) (i:=1) (by kernel_rfl) (by simp) W;rw[d.2.1 1 _ W rfl]at K;exact wp_ret (.agg (nw 18 1)) (by simp[go_sem,K]) (HW.out _) (fun w2 H=>⟨_,rfl,RG.quiet 2 _ G rfl rfl (fun j k r h=>by have:=C j k r h;omega) H d⟩)
  ·obtain rfl:=Option.some.inj ho;have W:=L ⟨0,.data⟩ (by simp) rfl;have K:=hF.at (s:=16) (i:=0) (by kernel_rfl) (by simp) W;rw[d.2.1 0 _ W rfl]at K;have l1:=L ⟨2,.data⟩ (by simp) rfl;have f1:=hF.at (s:=18) (by kernel_rfl) (by simp) l1;rw[d.2.1 2 _ l1 rfl]at f1;exact wp_ret (.agg (nw 9 I)) (by simp[go_sem,K,f1]) (HI.out _) (fun w2 H=>⟨_,rfl,RG.quiet 3 _ G rfl rfl (fun j k r h=>by have:=C j k r h;omega) H d⟩)
  ·obtain rfl:=Option.some.inj ho;exact wp_val (.pointer (some ⟨A.heap.size,0,none⟩)) (by simp[go_sem]) ⟨_,rfl,RG.alloc 4 (nw 9 0) 25 G hl rfl rfl (fun j k r h=>by have:=C j k r h;omega) d⟩
  ·obtain rfl:=Option.some.inj ho;have W:=L ⟨4,.data⟩ (by simp) rfl;have l1:=L ⟨3,.data⟩ (by simp) rfl;obtain⟨B,h4,h5⟩:=d.2.2.2;obtain⟨e1,e2,e3,e4,e5⟩:=h4 4 (nw 9 0) W rfl;simp only[hl]at e5;replace e5:blk A (B 4)=nw 9 0:=e5;have K:=hF.at (s:=9) (by kernel_rfl) (by simp) W;rw[e1]at K;have f1:=hF.at (s:=19) (by kernel_rfl) (by simp) l1;rw[d.2.1 3 _ l1 rfl]at f1;exact wp_skip (by simp[go_sem,K,f1,e4,e5]) ⟨undef,rfl,RG.store 5 4 (nw 9 0) (nw 9 I) (B 4) G hl rfl rfl rfl W rfl (by rw[nw_size];decide) e1 (fun k r h=>by have:=C k _ r h;omega) d⟩
 case hf=>
  intro q ay a1 A l d hF;have R:blk A ((w.heap.size+1+1+1+1+(g.os.length+Q.os.length)))=dv D (n+1) u:=(blk_of _ _ _ (d.1.below.block ((w.heap.size+1+1+1+1+(g.os.length+Q.os.length))) (by simp[go_sem] <;> omega))).trans (by simp[go_sem]);have aa:Pre ((w.heap.size+1+1+1+1+(g.os.length+Q.os.length))+1) A.heap.size:=Nat.le_trans (show (w.heap.size+1+1+1+1+(g.os.length+Q.os.length))+1≤_ by simp[go_sem] <;> omega) d.1.below.size;have af:blk A (w.heap.size)=nw 9 a:=(blk_of _ _ _ (d.1.below.block (w.heap.size) (by simp[go_sem] <;> omega))).trans (by simp[go_sem]);have ab:Pre (w.heap.size+1) A.heap.size:=Nat.le_trans (show w.heap.size+1≤_ by simp[go_sem] <;> omega) d.1.below.size;have ag:blk A (w.heap.size+1)=nw 9 e:=(blk_of _ _ _ (d.1.below.block (w.heap.size+1) (by simp[go_sem] <;> omega))).trans (by simp[go_sem]);have ac:=Nat.le_trans (show w.heap.size+1+1≤_ by simp[go_sem] <;> omega) d.1.below.size;have ah:blk A (w.heap.size+1+1+1)=nw 9 0:=(blk_of _ _ _ (d.1.below.block (w.heap.size+1+1+1) (by simp[go_sem] <;> omega))).trans (by simp[go_sem]);have ae:=Nat.le_trans (show w.heap.size+1+1+1+1≤_ by simp[go_sem] <;> omega) d.1.below.size;have Y:=d.2.1;obtain⟨B,h4,h5⟩:=d.2.2.2;have x0:=Y 0 _ (l 0 (by simp)) rfl;have x1:=Y 1 _ (l 1 (by simp)) rfl;have x2:=Y 2 _ (l 2 (by simp)) rfl;have x3:=Y 3 _ (l 3 (by simp)) rfl;obtain⟨x4,q4,p4,z4,y4⟩:=h4 4 _ (l 4 (by simp)) rfl;simp only[l 5 (by simp),if_true]at y4;replace p4:=p4;replace y4:=y4;have ai:=d.1;rw[hF.final (by kernel_rfl) l];simp only[putFrom,Act.put,List.setIfInBounds_toArray,List.set_cons_zero,List.set_cons_succ,x0,x1,x2,x3,x4];generalize B 4=b4 at *;clear Y h4 h5 d hF l x0 x1 x2 x3 x4
  have hp:PW w A a e I D n u (w.heap.size+1+1+1+1+(g.os.length+Q.os.length)) b4:=by
   refine⟨Gr.trans ?_ ai,af,ab,ag,ac,ah,ai.frz0 _ (by simp[go_sem] <;> omega) (by simp[go_sem]),ae,R,aa,y4,z4,p4,?_,?_⟩
   ·exact grA
   ·have h:=q4;simp[go_sem]at h;omega
   ·have h:=q4;simp[go_sem]at h;omega
  generalize (w.heap.size+1+1+1+1+(g.os.length+Q.os.length))=b8 at hp ⊢;clear R aa af ab ag ac ah ae p4 y4 z4 q4 ai HD HZ HO HW HI;have aD:=hp;obtain⟨H,h1,h2,h3,h4,h5,h6,h7,h8,h9,aj,ak,ao,ap,aq⟩:=aD;clear H
  go_wp2_with (go_at_call 66;refine hkA HB fun g3=>?_)
  have az:Hid _:=hp.gr ⟨g3,rfl⟩;clear h1 h2 h3 h4 h5 h6 h7 h8 h9 aj ak ao ap aq hp
  go_loopw [10] (fun i wr=>∃(j P:Nat),i=.int .i64 ((j:Int)-1)∧Hu (j≤s∧a^(e/2^j)%m=P)∧Hid (PW w wr a e P D n u b8 b4)) (fun i _=>(intOf i+1).toNat)
  case atStart=>exact⟨s,I,rfl,fun _=>⟨Nat.le_refl _,aC.out ()⟩,az⟩
  case round=>
   obtain⟨j,P,rfl,HJ,HP⟩:=hrel;clear az;obtain⟨H,h1,h2,h3,h4,h5,h6,h7,h8,h9,aj,ak,ao,ap,aq⟩:=HP.out;clear H
   by_cases hj:0<j
   ·obtain⟨i,rfl⟩:∃i,j=i+1:=⟨j-1,by omega⟩
    have e1:(((i+1:Nat):Int)-1)=(i:Int):=by omega
    rw[e1]
    have i0:(0:Int)≤i:=by omega
    have hi:i<576:=by have:=(HJ.out ()).1;omega
    have i1:(i:Int)<576:=by omega
    have J:P<M:=by rw[←(HJ.out ()).2];exact aw.out () _
    have c1:=fun w=>av.out P P J J w;have c2:=fun w=>HR.out (P*P) (mul_lt18 P P J J) w;obtain⟨S,hS⟩:=exl (P*P);rw[hS]at c1 c2;obtain⟨T,hT⟩:=exl (S%m);rw[hT]at c2
    have ar:T<M:=by rw[←hT];exact aw.out () _
    have c3:=fun w=>av.out T a ar (ax.out ()) w;have c4:=fun w=>HR.out (T*a) (mul_lt18 T a ar (ax.out ())) w;obtain⟨U,hU⟩:=exl (T*a);rw[hU]at c3 c4;obtain⟨V,Y⟩:=exl (U%m);rw[Y]at c4;have c5:=fun w=>aB.out i hi w;have C1:Hid _:=c1;have C2:Hid _:=c2;have C3:Hid _:=c3;have C4:Hid _:=c4;have hE:=(HJ.out ()).2
    have au:T=a^(e/2^(i+1))*a^(e/2^(i+1))%m:=by rw[←hT,←hS,←hE,pow_sq]
    have hh:=pow_half a e i;obtain⟨β,hβ⟩:=exl (bitN e i);rw[hβ]at hh;simp only[hβ]at c5;have C5:Hid _:=c5
    have aH:β<2:=by rw[←hβ];exact bitN_lt e i
    have HN:Hu ((β=1→a^(e/2^i)%m=V)∧(β=0→a^(e/2^i)%m=T)):=fun _=>by
     refine⟨fun h=>?_,fun h=>?_⟩
     ·rw[hh,h,Nat.pow_one,←Y,←hU,au,pow_mul]
     ·rw[hh,h,Nat.pow_zero,Nat.mul_one,au]
    have aA:Hu (i≤s):=fun _=>by have:=(HJ.out ()).1;omega
    clear c1 c2 c3 c4 c5 hS hT hU Y hE au hh hβ hi hj e1 J ar
    go_upto_region 8 with fail
    go_cut [9] from 27 to 31 (fun a9 wx=>a9=.pointer (some ⟨b4,0,none⟩)∧Hid (PW w wx a e T D n u b8 b4))
    case first=>
     go_region_with (first
      | (go_at_call 111;refine hkA C1 fun g5=>?_)
      | (go_at_call 116;refine hkA C2 fun g6=>?_))
     all_goals
      go_wp2_with fail
      go_meet
      exact⟨rfl,(HP.out.set T).gr ⟨_,rfl⟩⟩
    case rest=>
     obtain⟨rfl,Z⟩:=hcut;obtain⟨H,h1,h2,h3,h4,h5,h6,h7,h8,h9,aj,ak,ao,ap,aq⟩:=Z.out
     rcases(show β=0∨β=1 by omega) with rfl|rfl
     ·go_wp2_with (go_at_call 52;refine hkA C5 fun g7=>?_)
      go_roundw
      case rel=>exact⟨i,T,by go_num,fun _=>⟨aA.out (),(HN.out ()).2 (by first|exact rfl|trivial)⟩,Z.out.gr ⟨_,rfl⟩⟩
      case measure=>simp[intOf]
     ·have aI:Hid _:=fun g=>Z.out.gr ⟨g,rfl⟩
      go_upto_region 10 with (go_at_call 52;refine hkA C5 fun g7=>?_)
      go_region_with (first
       | (go_at_call 111;refine hkA C3 fun g5=>?_)
       | (go_at_call 116;refine hkA C4 fun g6=>?_))
      all_goals
       have aE:Hid _:=fun g=>(Z.out.set V).gr ⟨g,rfl⟩
       go_wp2_with fail
       go_roundw
       case rel=>exact⟨i,V,by go_num,fun _=>⟨aA.out (),(HN.out ()).1 (by first|exact rfl|trivial)⟩,aE.out _⟩
       case measure=>simp[intOf]
   ·obtain rfl:j=0:=by omega
    have HF:Hu (a^e%m=P):=fun _=>by have:=(HJ.out ()).2;rw[Nat.pow_zero,Nat.div_one]at this;exact this
    go_wp2_with fail
    refine bo2 results130 (rd_nat (by rfl) ?_) ⟨by rw[HF.out ()];rfl,?_⟩
    ·simp[go_sem, *]
    ·have H:=HP.out.g;exact grB
end
section
attribute [local go_sem ↓] uz3
attribute [local go_sem] uz4 ones_nw
attribute [local go_sem ↓] uz5 Go.wp_at_zero Go.wp_at_succ
attribute [local go_sem] loadMd storeMd buildMd0 buildMd1
theorem fadd_any(m a b:Nat)(ha:a<m)(hb:b<m)(hm:m+m≤M)(w:World):
 Cg 103 #[.agg (nw 9 m),.agg (nw 9 a),.agg (nw 9 b)] w (.agg (nw 9 ((a+b)%m))):=by
 obtain⟨S,i⟩:=exl (a+b)
 have f:S<M:=by omega
 have l:Hid _:=fun w=>by
  have:=add_any a b (by omega) (by omega) w;rw[i,Nat.mod_eq_of_lt f,decide_eq_false (by omega)]at this;exact this
 obtain⟨D,j⟩:=exl ((S+M-m)%M);have h:=fun w=>sub_any S m f (by omega) w
 by_cases hl:S<m
 ·rw[j,decide_eq_true hl]at h;have d:Hid _:=h
  have e:(a+b)%m=S:=by rw[i];exact Nat.mod_eq_of_lt hl
  rw[e]
  go_enter func103,ntmps103
  go_wp2_with (first
   | (go_at_call 109;refine hkA l fun g=>?_)
   | (go_at_call 106;refine hkA d fun q=>?_))
  refine bo1 results103 (rd_nat (by rfl) ?_) ⟨rfl,grA⟩;simp[go_sem]
 ·rw[j,decide_eq_false hl]at h;have d:Hid _:=h
  have e:(a+b)%m=D:=by
   rw[i,←j,show S+M-m=(S-m)+M by omega,Nat.add_mod_right,Nat.mod_eq_of_lt (show S-m<M by omega),Nat.mod_eq_sub_mod (by omega),Nat.mod_eq_of_lt (by omega)]
  rw[e]
  go_enter func103,ntmps103
  go_wp2_with (first
   | (go_at_call 109;refine hkA l fun g=>?_)
   | (go_at_call 106;refine hkA d fun q=>?_))
  refine bo1 results103 (rd_nat (by rfl) ?_) ⟨rfl,grA⟩;simp[go_sem]
theorem fsub_any(m a b:Nat)(ha:a<m)(hb:b<m)(hm:m+m≤M)(w:World):
 Cg 104 #[.agg (nw 9 m),.agg (nw 9 a),.agg (nw 9 b)] w (.agg (nw 9 ((a+m-b)%m))):=by
 obtain⟨D,f⟩:=exl ((a+M-b)%M)
 have i:D<M:=by rw[←f];exact Nat.mod_lt _ M_pos
 have h:=fun w=>sub_any a b (by omega) (by omega) w
 by_cases hl:a<b
 ·rw[f,decide_eq_true hl]at h;have d:Hid _:=h;obtain⟨E,j⟩:=exl ((D+m)%M);obtain⟨β,l⟩:=exl (decide (M≤D+m))
  have q:Hid _:=fun w=>by
   have:=add_any D m i (by omega) w;rw[j,l]at this;exact this
  have e:(a+m-b)%m=E:=by
   rw[Nat.mod_eq_of_lt (show a+M-b<M by omega)]at f;rw[←j,←f,show a+M-b+m=(a+m-b)+M by omega,Nat.add_mod_right,Nat.mod_eq_of_lt (show a+m-b<m by omega),Nat.mod_eq_of_lt (show a+m-b<M by omega)]
  rw[e]
  go_enter func104,ntmps104
  go_wp2_with (first
   | (go_at_call 109;refine hkA q fun g=>?_)
   | (go_at_call 106;refine hkA d fun v=>?_))
  refine bo1 results104 (rd_nat (by rfl) ?_) ⟨rfl,grA⟩;simp[go_sem]
 ·rw[f,decide_eq_false hl]at h;have d:Hid _:=h
  have e:(a+m-b)%m=D:=by
   rw[←f,show a+M-b=(a-b)+M by omega,Nat.add_mod_right,show a+m-b=(a-b)+m by omega,Nat.add_mod_right,Nat.mod_eq_of_lt (show a-b<m by omega),Nat.mod_eq_of_lt (show a-b<M by omega)]
  rw[e]
  go_enter func104,ntmps104
  go_wp2_with (go_at_call 106;refine hkA d fun v=>?_)
  refine bo1 results104 (rd_nat (by rfl) ?_) ⟨rfl,grA⟩;simp[go_sem]
theorem fred_any(m W:Nat)(h0:0<m)(hM:m<M)(hW:W<pw 18)(w:World):
 Cg 110 #[.agg (nw 9 m),.agg (nw 18 W)] w (.agg (nw 9 (W%m))):=by
 have f:=fun w=>mod_any W m h0 hM hW w;obtain⟨R,h⟩:=exl (W%m);rw[h]at f ⊢;have d:Hid _:=f
 go_enter func110,ntmps110
 go_wp2_with (go_at_call 124;refine hkA d fun i=>?_)
 refine bo1 results110 (rd_nat (by rfl) ?_) ⟨rfl,grA⟩;simp[go_sem]
theorem fpow_any(m a e:Nat)(h0:0<m)(hM:m<M)(ha:a<M)(he:e<M)(w:World):
 Calls prog 120 #[.agg (nw 9 m),.agg (nw 9 a),.agg (nw 9 e)] w fun f w'=>f=.returned (.agg (nw 9 (a^e%m)))∧Gr w w':=by
 have h:=fun w=>pow_any a e m ha he h0 hM w;obtain⟨R,i⟩:=exl (a^e%m);rw[i]at h ⊢;have d:Hid _:=h
 go_enter func120,ntmps120
 go_wp2_with (go_at_call 130;refine hkA d fun j=>?_)
 refine bo1 results120 (rd_nat (by rfl) ?_) ⟨rfl,grA⟩;simp[go_sem]
theorem fmul_any(m a b:Nat)(h0:0<m)(hM:m<M)(ha:a<M)(hb:b<M)(w:World):
 Cg 105 #[.agg (nw 9 m),.agg (nw 9 a),.agg (nw 9 b)] w (.agg (nw 9 (a*b%m))):=by
 have d:=fun w=>fred_any m (a*b) h0 hM (mul_pwj a b 9 18 rfl ha hb) w;have i:=fun w=>mul_any a b ha hb w;obtain⟨R,j⟩:=exl (a*b%m);obtain⟨X,l⟩:=exl (a*b);rw[j]at d ⊢;rw[l]at d i;have f:Hid _:=d;have h:Hid _:=i
 go_enter func105,ntmps105
 go_wp2_with fail
 go_region_with (first
  | (go_at_call 111;refine hkA h fun g=>?_)
  | (go_at_call 110;refine hkA f fun q=>?_))
 all_goals
  go_wp2_with fail
  refine bo1 results105 (rd_nat (by rfl) ?_) ⟨rfl,grA⟩;simp[go_sem]
end
section
attribute [local go_sem ↓] uz3
attribute [local go_sem] uz4 ones_nw
attribute [local go_sem ↓] uz5 Go.wp_at_zero Go.wp_at_succ
attribute [local go_sem] loadMd storeMd buildMd0 buildMd1 blk_other
structure Cl(v:World)(b x:Nat):Prop where
 h:blk v b=nw 9 x
 f:frz v b=(0,0)
 p:Pre (b+1) v.heap.size
theorem Cl.gr{v v':World}{b x:Nat}(h:Cl v b x)(k:Gr v v'):Cl v' b x:=
 ⟨by rw[k.blk _ h.p];exact h.h,by rw[k.frz _ h.p];exact h.f,Nat.le_trans h.p k.below.size⟩
theorem Cl.set{v:World}{b x:Nat}(h:Cl v b x)(y:Nat):Cl (setBlk v b (nw 9 y)) b y:=
 ⟨blk_setBlk _ _ _ (by rw[h.h,nw_size];decide),by rw[frz_setBlk];exact h.f,by rw[size_setBlk];exact h.p⟩
theorem Cl.other{v:World}{b c x:Nat}{d:Array Value}(h:Cl v c x)(n:b≠c):Cl (setBlk v b d) c x:=
 ⟨by rw[blk_other _ _ _ _ n];exact h.h,by rw[frz_setBlk];exact h.f,by rw[size_setBlk];exact h.p⟩
theorem sq_step(a j m:Nat)(h:a^(2^j)%m*(a^(2^j)%m)%m=a^(2^j)*a^(2^j)%m):a^(2^j)%m*(a^(2^j)%m)%m=a^(2^(j+1))%m:=by
 rw[h,←Nat.pow_add,show 2^j+2^j=2^(j+1) by rw[Nat.pow_succ];omega]
theorem fsquared_any(m a k:Nat)(ha:a<m)(hM:m<M)(hk:k<1000)(w:World):
 Cg 122 #[.agg (nw 9 m),.agg (nw 9 a),.int .i64 k] w (.agg (nw 9 (a^(2^k)%m))):=by
 have q:Hid (∀x y,x<m→y<m→∀w,Cg 105 #[.agg (nw 9 m),.agg (nw 9 x),.agg (nw 9 y)] w (.agg (nw 9 (x*y%m)))):=fun x y f h w=>fmul_any m x y (by omega) hM (by omega) (by omega) w
 have v:Hu (a^(2^0)%m=a):=fun _=>by rw[Nat.pow_zero,Nat.pow_one];exact Nat.mod_eq_of_lt ha
 have A:Hu (0<m):=fun _=>by omega
 go_enter func122,ntmps122
 go_wp2_with fail
 go_loopw [8] (fun i wr=>∃(j x:Nat),i=.int .i64 j∧Hu (j≤k∧a^(2^j)%m=x)∧Hid (Gr w wr∧Cl wr w.heap.size m∧Cl wr (w.heap.size+1) x∧Cl wr (w.heap.size+1+1) 0)) (fun i _=>((k:Int)-intOf i).toNat)
 case atStart=>
  refine⟨0,a,rfl,fun _=>⟨Nat.zero_le _,v.out ()⟩,?_⟩;refine⟨grA,⟨by simp[go_sem],by simp[go_sem],by simp[go_sem]⟩,⟨by simp[go_sem],by simp[go_sem],by simp[go_sem]⟩,⟨by simp[go_sem],by simp[go_sem],by simp[go_sem]⟩⟩
 case round=>
  obtain⟨j,x,rfl,d,l⟩:=hrel;obtain⟨-,⟨K,L,P⟩,⟨Q,R,S⟩,⟨U,V,W⟩⟩:=l.out
  by_cases hj:j<k
  ·have f:x<m:=by rw[←(d.out ()).2];exact Nat.mod_lt _ (A.out ())
   obtain⟨y,h⟩:=exl (x*x%m);have B:Hu (j+1≤k∧a^(2^(j+1))%m=y):=fun _=>⟨hj,by rw[←h,←(d.out ()).2,←sq_step a j m (Nat.mul_mod _ _ _).symm]⟩;have C:Hid _:=h▸q.out x x f f
   go_wp2_with (go_at_call 105;refine hkA C fun g=>?_)
   go_roundw
   case rel=>
    refine⟨j+1,y,by go_num,B,?_⟩;obtain⟨G,D,H,I⟩:=l.out;refine⟨?_,(D.other (by omega)).gr ⟨_,rfl⟩,(H.set y).gr ⟨_,rfl⟩,(I.other (by omega)).gr ⟨_,rfl⟩⟩;exact grB
   case measure=>simp[intOf];omega
  ·have hk:j=k:=by have:=(d.out ()).1;omega
   subst hk;have J:Hu (_):=fun _=>(d.out ()).2
   go_wp2_with fail
   refine bo1 results122 (rd_nat (by rfl) ?_) ⟨by rw[J.out ()],?_⟩
   ·simp[go_sem, *]
   ·have X:=l.out.1;exact grB
theorem fsplit_any(m q s:Nat)(hq:q%2=1)(hm:m=q*2^s+1)(hs:s<576)(hM:m<M)(w:World):
 Cg 118 #[.agg (nw 9 m)] w (.tuple #[.agg (nw 9 q),.int .i64 s]):=by
 obtain⟨O,D⟩:=exl (q*2^s);have H:Hid _:=small_any 1 (by decide)
 have I:Hid _:=fun w=>by
  have:=sub_any m 1 hM (lt_M 1 (by decide)) w;rw[show m+M-1=O+M by omega,Nat.add_mod_right,Nat.mod_eq_of_lt (show O<M by omega),decide_eq_false (by omega)]at this;exact this
 have J:Hid _:=fun x w=>by
  have:=bit_any x 0 (by decide) w;unfold bitN at this;rw[Nat.pow_zero,Nat.div_one]at this;exact this
 have K:Hid _:=fun x L w=>shr_any x 1 L (by decide) w;have f:Hu (q%2=1∧O<M∧s<576∧q*2^s=O):=fun _=>⟨hq,by omega,hs,D⟩;clear hq hm hs hM D
 go_enter func118,ntmps118
 go_upto_region 1 with fail
 go_cut [4,5] from 7 to 13 (fun a4 _ wx=>∃b,a4=.pointer (some ⟨b,0,none⟩)∧Hid (Gr w wx∧w.heap.size+1+1≤b∧Cl wx b O∧Cl wx (w.heap.size+1) 0))
 case first=>
  go_region_with (first
   | (go_at_call 100;refine hkA H fun g=>?_)
   | (go_at_call 106;refine hkA I fun P=>?_))
  all_goals
   go_wp2_with fail
   go_meet
   refine⟨_,rfl,grA,by simp[go_sem] <;> omega,⟨by simp[go_sem],by simp[go_sem],by simp[go_sem]⟩,⟨by simp[go_sem],by simp[go_sem],by simp[go_sem]⟩⟩
 case rest=>
  obtain⟨b,rfl,d⟩:=hcut;clear H I;have hb:=d.out.2.1
  go_wp2_with fail
  go_loopw [6] (fun i wr=>∃(j x:Nat),i=.int .i64 j∧Hu (j≤s∧q*2^(s-j)=x)∧Hid (Gr w wr∧Cl wr b x∧Cl wr (w.heap.size+1) 0)) (fun i _=>((s:Int)-intOf i).toNat)
  case atStart=>exact⟨0,O,rfl,fun _=>⟨Nat.zero_le _,(f.out ()).2.2.2⟩,d.out.1,d.out.2.2.1,d.out.2.2.2⟩
  case round=>
   clear d;obtain⟨j,x,rfl,h,d⟩:=hrel;obtain⟨-,⟨h1,f1,p1⟩,⟨h2,f2,p2⟩⟩:=d.out;have hs:=(f.out ()).2.2.1
   have l:¬b=w.heap.size+1:=by omega
   by_cases hj:j<s
   ·have Q:q*2^(s-j)=(q*2^(s-(j+1)))*2:=by
     rw[show s-j=s-(j+1)+1 by omega,Nat.pow_succ,Nat.mul_assoc]
    have v:x%2=0:=by rw[←(h.out ()).2,Q];omega
    have A:x<M:=by
     have R:=(f.out ()).2.1;have S:=(f.out ()).2.2.2;refine Nat.lt_of_le_of_lt ?_ R;rw[←(h.out ()).2,←S];exact Nat.mul_le_mul_left q (Nat.pow_le_pow_right (by decide) (by omega))
    obtain⟨y,U⟩:=exl (x/2);have V:Hu (j+1≤s∧q*2^(s-(j+1))=y):=fun _=>⟨hj,by have:=(h.out ()).2;omega⟩
    have B:Hid _:=fun w=>by
     have:=J.out x w;rw[v]at this;exact this
    have W:Hid _:=U▸K.out x A
    go_wp2_with (first
     | (go_at_call 52;refine hkA B fun g=>?_)
     | (go_at_call 119;refine hkA W fun P=>?_))
    go_roundw
    case rel=>
     refine⟨j+1,y,by go_num,V,?_⟩;obtain⟨G,X,Y⟩:=d.out;refine⟨?_,(X.set y).gr ⟨_,rfl⟩,(Y.other l).gr ⟨_,rfl⟩⟩;exact grB
    case measure=>simp[intOf];omega
   ·have Z:j=s:=by have:=(h.out ()).1;omega
    subst Z
    have C:q=x:=by have:=(h.out ()).2;rw[Nat.sub_self,Nat.pow_zero,Nat.mul_one]at this;exact this
    subst C
    have B:Hid _:=fun w=>by
     have:=J.out q w;rw[(f.out ()).1]at this;exact this
    go_wp2_with (go_at_call 52;refine hkA B fun g=>?_)
    refine bo2 results118 (rd_nat (by rfl) ?_) ⟨rfl,?_⟩
    ·simp[go_sem, *]
    ·have hg:=d.out.1;exact grB
end
end
end Go.Proofs.YtiigakdbabijhaaGreat