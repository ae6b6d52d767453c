import Derived.Deep.RegionLaw
import Derived.Deep.DrawnRows
import Derived.Test.YtghidgcekieljaaGreatXADC
import Derived.Test.YtghidgcekieljaaGreatXAShr
import Derived.Test.YtghidgcekieljaaGreatXALawA
namespace Go.Proofs.YtghidgcekieljaaGreat
open Go.RowKit Go.Proofs.Tryz
set_option maxRecDepth 100000
set_option maxHeartbeats 8000000
section
attribute [local go_sem ↓] uz1
attribute [local go_sem] uz2
section
attribute [local go_sem ↓] uz3
attribute [local go_sem] uz4 ones_nw
attribute [local go_sem ↓] Go.wp_at_zero Go.wp_at_succ
theorem pw_up(i k:Nat)(h:i≤k):pw i≤pw k:=Nat.pow_le_pow_right (by decide) (by omega)
theorem split_start(W D n u m:Nat)(hU:Used W m)(hu:u<64)(hT:9223372036854775808≤wd D n)(hD:D<pw (n+1))(hB:pw n*2^u≤D):W*2^u<D*pw (m-n):=by
 obtain⟨h1,h2,h3⟩:=hU;have hp:=Nat.two_pow_pos u
 by_cases hm:m≤n
 ·rw[show m-n=0 by omega,pw_zero,Nat.mul_one];have h4:pw m≤pw n:=Nat.pow_le_pow_right (by decide) (by omega);have h5:W*2^u<pw n*2^u:=Nat.mul_lt_mul_of_pos_right (by omega) hp
  omega
 ·obtain⟨j,rfl⟩:∃j,m=n+j:=⟨m-n,by omega⟩;rw[show n+j-n=j by omega]
  have h4:9223372036854775808*pw n≤D:=by
   have h5:=Nat.div_mul_le_self D (pw n);rw[top_one D n hD]at h5;exact Nat.le_trans (Nat.mul_le_mul_right _ hT) h5
  have h6:2^u≤9223372036854775808:=by
   have:=Nat.pow_le_pow_right (n:=2) (by decide) (show u≤63 by omega);exact this
  rw[pw_add]at h2;have h7:=Nat.mul_lt_mul_of_pos_right h2 hp;have h8:pw n*pw j*2^u≤pw n*pw j*9223372036854775808:=Nat.mul_le_mul_left _ h6;have h9:9223372036854775808*pw n*pw j≤D*pw j:=Nat.mul_le_mul_right _ h4
  have e:pw n*pw j*9223372036854775808=9223372036854775808*pw n*pw j:=by grind
  omega
theorem q_set(H i t:Nat)(ht:t<18446744073709551616):(nw 18 (H*pw (i+1))).setIfInBounds i (Value.int .u64 (t:Int))=nw 18 ((H*18446744073709551616+t)*pw i):=by
 rw[nw_set_low 18 H i t ht];refine congrArg (nw 18) ?_;rw[pow_succ64]
 grind
theorem q_next(X V D H i t Z:Nat)(h:X=V+D*(H*pw (i+1)))(hz:Z+t*(D*pw i)=V):X=Z+D*((H*18446744073709551616+t)*pw i):=by
 rw[pow_succ64]at h;generalize pw i=P at *
 grind
theorem slice19(b l h:Nat)(hl:l<h)(hh:h≤19)(w:World):(Instr.sliceAt 230 (.pointer (some ⟨b,0,none⟩)) (some (.int .i64 (l:Int))) (some (.int .i64 (h:Int))) none).run prog w=.ok (.slice (some ⟨b,l,none⟩) (h-l) (19-l)) w:=by
 have hs:(prog.info? 22).map (·.size)=some 1:=by kernel_rfl
 have ha:prog.arrayLen 230=19:=by kernel_rfl
 have he:prog.elem 230=22:=by kernel_rfl
 rw[run_sliceAt_array_lh w 230 ⟨b,0,none⟩ (by kernel_rfl) .i64 .i64 (l:Int) (h:Int) (by omega) (by omega) (by rw[ha];omega),he,ha]
 cases hq:prog.info? 22 with
 | none=>rw[hq]at hs;cases hs
 | some i=>
  have hi:i.size=1:=by simpa [hq]using hs
  have e1:¬19=l:=by omega
  simp[sizeOf,typeInfo,hq,hi,slicedAt,e1,Addr.add,Result.andThen];exact fun h=>h.symm
theorem slice9(b h:Nat)(hh:h<9)(w:World):(Instr.sliceAt 23 (.pointer (some ⟨b,0,none⟩)) none (some (.int .i64 ((h:Int)+1))) none).run prog w=.ok (.slice (some ⟨b,0,none⟩) (h+1) 9) w:=by
 have hs:(prog.info? 22).map (·.size)=some 1:=by kernel_rfl
 have ha:prog.arrayLen 23=9:=by kernel_rfl
 have he:prog.elem 23=22:=by kernel_rfl
 have et:((h:Int)+1).toNat=h+1:=by omega
 rw[run_sliceAt_array_h w 23 ⟨b,0,none⟩ (by kernel_rfl) .i64 ((h:Int)+1) (by omega) (by rw[ha];omega),he,ha,et]
 cases hq:prog.info? 22 with
 | none=>rw[hq]at hs;cases hs
 | some i=>simp[sizeOf,typeInfo,hq,slicedAt,Addr.add,Result.andThen]
def Spl(w:World)(X D u:Nat)(e:Ending)(w':World):Prop:=∃Q V,e=.returned (.tuple #[.agg (nw 18 Q),.agg (nw 9 (V/2^u))])∧X=V+D*Q∧V<D∧Gr w w'
theorem split_any(W D n u:Nat)(w:World)(hW:W<pw 18)(hu:u<64)(hn:n<9)(hD:D<pw (n+1))(hT:9223372036854775808≤wd D n)(hB:pw n*2^u≤D):
 Calls prog 178 #[.agg (dv D (n+1) u),.agg (nw 18 W)] w (Spl w (W*2^u) D u):=by
 have HM:Hid _:=moveUp_any W u hW hu;have HU:Hid _:=used_any W hW;have HT:Hid _:=fun i V b c w h1 h2 h3=>takeOut_any D n u i V b c w hn hD hT h2 h3 h1;have HSt:Hid _:=fun m h=>split_start W D n u m h hu hT hD hB;have HSh:Hid _:=fun V w hV=>shr_any V u (Nat.lt_of_lt_of_le (Nat.lt_trans hV hD) (pw_up (n+1) 9 (by omega))) (by omega) w;have HDl:Hid (∀V,V<D→V%pw (n+1)=V):=fun V h=>Nat.mod_eq_of_lt (Nat.lt_trans h hD);have HN:Hu (_):=fun _=>hn
 have n0:(0:Int)≤(n:Int):=by omega
 have n1:(n:Int)<9:=by omega
 clear hW hu hn hD hT hB
 go_enter func178,ntmps178
 go_upto_region 3 with (go_at_call 181;refine(HM.out _).mono ?_;rintro e w' ⟨rfl,g,rfl⟩)
 go_cut [8] from 14 to 18 (fun a wx=>∃(x:Int) (m:Nat),a=.int .i64 x∧Hid (x=(m:Int)-((n:Int)+1))∧Hu (Used W m)∧∃k,wx=gro ((gro (((((w.alloc (.cells (dv D (n+1) u) 216)).alloc (.cells (nw 18 W) 208)).alloc (.cells (nw 18 0) 208)).alloc (.cells (nw 9 0) 25)).alloc (.cells (nw 18 0) 208)) g).alloc (.cells (nw 19 (W*2^u)) 230)) k)
 case first=>
  go_region_with (go_at_call 182;refine(HU.out _).mono ?_;rintro e w' ⟨m,rfl,hm,rfl⟩)
  all_goals
   have m1:(m:Int)≤18:=by have:=hm.1;omega
   have m0:(0:Int)≤(m:Int):=by omega
  all_goals
   go_wp2_with fail
  all_goals
   go_meet
   refine⟨_,m,rfl,?_,fun _=>hm,?_⟩
   ·show IntKind.i64.wrap ((m:Int)-((n:Int)+1))=(m:Int)-((n:Int)+1)
    rw[IntKind.wrap_i64];omega
   ·exact((Gr.refl _).alloc _).drew
 case rest=>
  obtain⟨x,m,rfl,HX,HUs,k,rfl⟩:=hcut;have HSt0:=HSt.out m (HUs.out ());obtain⟨X,hX⟩:=exl (W*2^u);rw[hX]at HSt0 ⊢;have HS0:Hu (_):=fun _=>HSt0;have HXX:Hu (_):=fun _=>hX;clear HSt0 hX HM HU HSt
  go_wp2_with fail
  go_loopw [8] (fun a wr=>∃(j H V:Nat) (y:Int),a=.int .i64 y∧Hid ((y+1).toNat=j ∧ -20<y∧j+n≤18)∧Hu (V<D*pw j∧X=V+D*(H*pw j))∧∃k,wr=gro ((gro (((((w.alloc (.cells (dv D (n+1) u) 216)).alloc (.cells (nw 18 W) 208)).alloc (.cells (nw 18 0) 208)).alloc (.cells (nw 9 0) 25)).alloc (.cells (nw 18 (H*pw j)) 208)) g).alloc (.cells (nw 19 V) 230)) k) (fun a _=>(intOf a+1).toNat)
  case atStart=>
   have h1:=HX.out;have h2:=(HUs.out ()).1;have h3:=HN.out ();exact⟨m-n,0,X,x,rfl,⟨by omega,by omega,by omega⟩,fun _=>⟨HS0.out (),by simp⟩,k,by rw[Nat.zero_mul]⟩
  case round=>
   obtain⟨j,H,V,y,rfl,HY,HV,k2,rfl⟩:=hrel
   by_cases hj:0<j
   ·obtain⟨i,rfl⟩:∃i,j=i+1:=⟨j-1,by omega⟩;obtain⟨y1,y2,y3⟩:=HY.out
    obtain rfl:y=(i:Int):=by omega
    have i0:(0:Int)≤(i:Int):=by omega
    have i1:(i:Int)<18:=by omega
    obtain⟨q,hq⟩:=exl (i+(n+1+1))
    have i2:IntKind.i64.wrap ((i:Int)+((n:Int)+1))=(i:Int)+((n:Int)+1):=by rw[IntKind.wrap_i64];omega
    have i3:IntKind.i64.wrap ((i:Int)+((n:Int)+1)+1)=(q:Int):=by rw[IntKind.wrap_i64];omega
    have hsl:∀(b:Nat) w,(Instr.sliceAt 230 (.pointer (some ⟨b,0,none⟩)) (some (.int .i64 (i:Int))) (some (.int .i64 (q:Int))) none).run prog w=.ok (.slice (some ⟨b,i,none⟩) (n+1+1) (19-i)) w:=fun b w=>by
     rw[slice19 b i q (by omega) (by omega) w,show q-i=n+1+1 by omega]
    have HQ:Hu (i+(n+1+1)≤19):=fun _=>by omega
    clear y1 y2 y3 HX hq
    go_wp2_with fail
    have hv:=(HV.out ()).1;have gq:=nw_get 18 (H*pw (i+1)) i (by have:=HQ.out ();omega);have HVv:Hu (_):=fun _=>hv;clear hv
    go_region_with (go_at_call 183;refine(HT.out i V _ _ _ (HQ.out ()) ?_ (HVv.out ())).mono ?_;exact⟨by simp[go_sem],by simp[go_sem],by simp[go_sem]⟩;rintro e w' ⟨tq,Z,rfl,htq,⟨k3,rfl⟩,hz,hze⟩)
    all_goals
     have HZ:Hu (tq<18446744073709551616∧Z<D*pw i∧Z+tq*(D*pw i)=V):=fun _=>⟨htq,hz,hze⟩;clear htq hz hze gq hsl i2 i3
     go_wp2_with fail
     go_roundw
     case rel=>
      have hh:=HZ.out ();have hq:=HQ.out ();exact⟨i,H*18446744073709551616+tq,Z,(i:Int)-1,rfl,⟨by omega,by omega,by omega⟩,fun _=>⟨hh.2.1,q_next X V D H i tq Z (HV.out ()).2 hh.2.2⟩,_,by rw[q_set H i tq hh.1]⟩
     case measure=>simp[intOf]
   ·obtain rfl:j=0:=by omega
    have yn:¬(0:Int)≤y:=by have:=HY.out.1;omega
    have yn':y<0:=by omega
    obtain⟨Q,hQ⟩:=exl (H*pw 0);rw[hQ]
    have HF:Hu (V<D∧X=V+D*Q):=fun _=>by
     have h1:=HV.out ();rw[pw_zero,Nat.mul_one]at h1;rw[←hQ,pw_zero];exact h1
    have hmn:min 19 (n+1)=n+1:=by have:=HN.out ();omega
    have hn9:n+1≤9:=by have:=HN.out ();omega
    have hn19:n+1≤19:=by omega
    have hcp:nw 9 (V%pw (n+1))=nw 9 V:=by rw[HDl.out V (HF.out ()).1]
    have hs9:=fun b w=>slice9 b n (HN.out ()) w;obtain⟨R,hR⟩:=exl (V/2^u);have hsh:=fun w=>HSh.out V w (HF.out ()).1;rw[hR]at hsh;have HSh2:Hid _:=hsh;have HR:Hu (_):=fun _=>hR
    go_wp2_with fail
    go_big_region
    go_wp2_with (go_at_call 120;refine(HSh2.out _).mono ?_;rintro e w' ⟨rfl,k4,rfl⟩)
    go_big_region
    go_wp2_with fail
    refine bodyPost_ret (res_two results178 (rd_wide (by rfl) ?_) (rd_nat (by rfl) ?_)) rfl ⟨Q,V,by rw[HR.out ()],(HXX.out ()).trans (HF.out ()).2,(HF.out ()).1,grA⟩
    ·simp[go_sem]
    ·simp[go_sem]
end
section
attribute [local go_sem ↓] uz3
attribute [local go_sem] uz4 ones_nw
structure Dv(m D n u:Nat):Prop where
 n9:n<9
 u64:u<64
 eq:D=m*2^u
 lt:D<pw (n+1)
 top:9223372036854775808≤wd D n
 low:pw n*2^u≤D
theorem bl_pwk(m k:Nat)(h:m<pw k):bl m≤64*k:=(bl_le m (64*k)).2 h
theorem bl_facts(m s:Nat)(h0:0<m)(hs:bl m=s):1≤s∧m<2^s∧2^(s-1)≤m:=by
 have h1:=(bl_le m s).1 (by omega)
 have h3:1≤s:=by
  by_cases hc:s=0
  ·rw[hc,Nat.pow_zero]at h1;omega
  ·omega
 refine⟨h3,h1,?_⟩
 by_cases hc:m<2^(s-1)
 ·have:=(bl_le m (s-1)).2 hc
  omega
 ·omega
theorem dv_of(m s n u:Nat)(hs1:1≤s)(hs9:s≤64*9)(h1:m<2^s)(h2:2^(s-1)≤m)(hn:n+1=(s+63)/64)(hu:u=64*(n+1)-s):Dv m (m*2^u) n u:=by
 have hp:=Nat.two_pow_pos u
 have e1:pw (n+1)=2^s*2^u:=by
  unfold pw;rw[←Nat.pow_add]
  congr 1
  omega
 have e2:9223372036854775808*pw n=2^(s-1)*2^u:=by
  unfold pw;rw[←Nat.pow_add,show s-1+u=63+64*n by omega,Nat.pow_add]
 have lt:m*2^u<pw (n+1):=by rw[e1];exact Nat.mul_lt_mul_of_pos_right h1 hp
 refine⟨by omega,by omega,rfl,lt,?_,?_⟩
 ·rw[←top_one _ n lt,Nat.le_div_iff_mul_le (pw_pos n),e2];exact Nat.mul_le_mul_right _ h2
 ·refine Nat.mul_le_mul_right _ (Nat.le_trans ?_ h2);exact Nat.pow_le_pow_right (by decide) (by omega)
theorem pw_le_M(n:Nat)(h:n≤9):pw n≤M:=pw_up n 9 h
theorem buildDv_is(p:Array (Nat×Value)):Instr.build 216 p=buildS 216 p:=rfl
theorem buildDv(D:Nat)(x y:Int)(w:World):(buildS 216 #[(0,.agg (nw 9 D)),(1,.int .i64 x),(2,.int .i64 y)]).run prog w=.ok (.agg (nw 9 D ++ #[.int .i64 x,.int .i64 y])) w:=by
 kernel_rfl
theorem dv_app(D n u:Nat):nw 9 D ++ #[.int .i64 ((n:Int)+1),.int .i64 (u:Int)]=dv D (n+1) u:=rfl
attribute [local go_sem ↓] buildDv_is
attribute [local go_sem] buildDv dv_app
theorem divisorOf_any(m:Nat)(h0:0<m)(hM:m<M):
 ∃D n u,Dv m D n u∧∀w,Cg 168 #[.agg (nw 9 m)] w (.agg (dv D (n+1) u)):=by
 obtain⟨s,hs⟩:=exl (bl m);obtain⟨hs0,hs2,hs3⟩:=bl_facts m s h0 hs
 have hs9:s≤64*9:=by rw[←hs];exact bl_pwk m 9 hM
 obtain⟨n,hn⟩:∃n,n+1=(s+63)/64:=⟨(s+63)/64-1,by omega⟩;obtain⟨u,hu⟩:∃u,u=64*(n+1)-s:=⟨_,rfl⟩;have hd:=dv_of m s n u hs0 hs9 hs2 hs3 hn hu;obtain⟨D,hD⟩:=exl (m*2^u);rw[hD]at hd;have hDM:=Nat.lt_of_lt_of_le hd.lt (pw_le_M (n+1) (by have:=hd.n9;omega))
 have HB:Hid _:=fun w=>by
  have:=bits_any m hM w;rw[hs]at this;exact this
 have HS:Hid _:=fun w=>by
  have:=shl_any m u (by have:=hd.u64;omega) w;rw[hD,Nat.mod_eq_of_lt hDM]at this;exact this
 have s0:(0:Int)≤(s:Int):=by omega
 have s1:(s:Int)≤576:=by omega
 obtain⟨p,hp⟩:=exl (s+63)
 have s2:(s:Int)+64-1=(p:Int):=by omega
 have s3':(p:Int)/64=(n:Int)+1:=by omega
 have s4:((n:Int)+1)*64-(s:Int)=(u:Int):=by omega
 have HD:Hid _:=hd;refine⟨D,n,u,hd,fun w=>?_⟩;clear hp hd HD hDM hD hu hn hs9 hs0 hs h0 hM hs2 hs3
 go_enter func168,ntmps168
 go_wp2_with (first
  | (go_at_call 64;refine(HB.out _).mono ?_;rintro e w' ⟨rfl,g,rfl⟩)
  | (go_at_call 177;refine(HS.out _).mono ?_;rintro e w' ⟨rfl,g2,rfl⟩))
 refine bodyPost_ret (res_one results168 (rd_dv (by rfl) ?_)) rfl ⟨rfl,grA⟩;simp[go_sem]
end
section
attribute [local go_sem ↓] uz3
attribute [local go_sem] uz4 ones_nw
attribute [local go_sem ↓] Go.wp_at_zero Go.wp_at_succ
theorem mul_pwj(a b k j:Nat)(h:j=k+k)(ha:a<pw k)(hb:b<pw k):a*b<pw j:=by
 subst h;rw[pw_add];exact Nat.mul_lt_mul_of_lt_of_lt ha hb
theorem splitD(W m D n u:Nat)(hd:Dv m D n u)(hW:W<pw 18)(w:World):
 Cg 178 #[.agg (dv D (n+1) u),.agg (nw 18 W)] w (.tuple #[.agg (nw 18 (W/m)),.agg (nw 9 (W%m))]):=by
 refine(split_any W D n u w hW hd.u64 hd.n9 hd.lt hd.top hd.low).mono ?_;rintro e w' ⟨Q,V,rfl,h1,h2,h3⟩;obtain⟨e1,e2⟩:=split_end W D (2^u) Q V m hd.eq (Nat.two_pow_pos u) h1 h2;exact⟨by rw[e1,e2],h3⟩
theorem restD(W m D n u:Nat)(hd:Dv m D n u)(hW:W<pw 18)(w:World):
 Cg 169 #[.agg (dv D (n+1) u),.agg (nw 18 W)] w (.agg (nw 9 (W%m))):=by
 have HS:=fun w=>splitD W m D n u hd hW w;obtain⟨Q,hQ⟩:=exl (W/m);obtain⟨R,hR⟩:=exl (W%m);rw[hR];rw[hQ,hR]at HS;have HS':Hid _:=HS
 go_enter func169,ntmps169
 go_wp2_with (go_at_call 178;refine(HS'.out _).mono ?_;rintro e w' ⟨rfl,g,rfl⟩)
 refine bodyPost_ret (res_one results169 (rd_nat (by rfl) ?_)) rfl ⟨rfl,grA⟩;simp[go_sem]
theorem notZero(m:Nat)(h0:0<m)(hM:m<M)(w:World):Cg 166 #[.agg (nw 9 m)] w (.bool false):=by
 have:=isZero_any m hM w;rw[decide_eq_false (by omega)]at this;exact this
theorem mod_any(W m:Nat)(h0:0<m)(hM:m<M)(hW:W<pw 18)(w:World):
 Cg 164 #[.agg (nw 18 W),.agg (nw 9 m)] w (.tuple #[.agg (nw 9 (W%m)),.int .i64 0]):=by
 have HZ:Hid _:=notZero m h0 hM;obtain⟨D,n,u,hd,hD⟩:=divisorOf_any m h0 hM;have HD:Hid _:=hD;have hr:=fun w=>restD W m D n u hd hW w;obtain⟨R,hR⟩:=exl (W%m);rw[hR];rw[hR]at hr;have HR:Hid _:=hr
 go_enter func164,ntmps164
 go_wp2_with (go_at_call 166;refine(HZ.out _).mono ?_;rintro e w' ⟨rfl,g,rfl⟩)
 go_region_with (first
  | (go_at_call 168;refine(HD.out _).mono ?_;rintro e w' ⟨rfl,g1,rfl⟩)
  | (go_at_call 169;refine(HR.out _).mono ?_;rintro e w' ⟨rfl,g2,rfl⟩))
 all_goals
  go_wp2_with fail
  refine bodyPost_ret (res_two results164 (rd_nat (by rfl) ?_) (rd_tmp (by rfl))) rfl ⟨rfl,grA⟩;simp[go_sem]
theorem lt18(a:Nat)(ha:a<M):a<pw 18:=Nat.lt_of_lt_of_le ha (pw_up 9 18 (by decide))
theorem div_lt(a m:Nat)(ha:a<M):a/m<M:=Nat.lt_of_le_of_lt (Nat.div_le_self a m) ha
end
section
attribute [local go_sem ↓] uz3
attribute [local go_sem] uz4 ones_nw
attribute [local go_sem ↓] Go.wp_at_zero Go.wp_at_succ
attribute [local go_sem] blk_other
theorem pow_mul(x a m:Nat):x%m*a%m=x*a%m:=Nat.mod_mul_mod x a m
end
section
attribute [local go_sem ↓] uz3
attribute [local go_sem] uz4 ones_nw
attribute [local go_sem ↓] uz6 Go.wp_at_zero Go.wp_at_succ
attribute [local go_sem] loadMd storeMd buildMd0 buildMd1
theorem fadd_any(m a b:Nat)(ha:a<m)(hb:b<m)(hm:m+m≤M)(w:World):
 Cg 153 #[.agg (nw 9 m),.agg (nw 9 a),.agg (nw 9 b)] w (.agg (nw 9 ((a+b)%m))):=by
 obtain⟨S,hS⟩:=exl (a+b)
 have hSM:S<M:=by omega
 have HA:Hid _:=fun w=>by
  have:=add_any a b (by omega) (by omega) w;rw[hS,Nat.mod_eq_of_lt hSM,decide_eq_false (by omega)]at this;exact this
 obtain⟨D,hD⟩:=exl ((S+M-m)%M);have HS:=fun w=>sub_any S m hSM (by omega) w
 by_cases hl:S<m
 ·rw[hD,decide_eq_true hl]at HS;have HS':Hid _:=HS
  have e:(a+b)%m=S:=by rw[hS];exact Nat.mod_eq_of_lt hl
  rw[e]
  go_enter func153,ntmps153
  go_wp2_with (first
   | (go_at_call 158;refine(HA.out _).mono ?_;rintro e w' ⟨rfl,g,rfl⟩)
   | (go_at_call 69;refine(HS'.out _).mono ?_;rintro e w' ⟨rfl,g2,rfl⟩))
  refine bodyPost_ret (res_one results153 (rd_nat (by rfl) ?_)) rfl ⟨rfl,grA⟩;simp[go_sem]
 ·rw[hD,decide_eq_false hl]at HS;have HS':Hid _:=HS
  have e:(a+b)%m=D:=by
   rw[hS,←hD,show S+M-m=(S-m)+M by omega,Nat.add_mod_right,Nat.mod_eq_of_lt (show S-m<M by omega),Nat.mod_eq_sub_mod (by omega),Nat.mod_eq_of_lt (by omega)]
  rw[e]
  go_enter func153,ntmps153
  go_wp2_with (first
   | (go_at_call 158;refine(HA.out _).mono ?_;rintro e w' ⟨rfl,g,rfl⟩)
   | (go_at_call 69;refine(HS'.out _).mono ?_;rintro e w' ⟨rfl,g2,rfl⟩))
  refine bodyPost_ret (res_one results153 (rd_nat (by rfl) ?_)) rfl ⟨rfl,grA⟩;simp[go_sem]
theorem fsub_any(m a b:Nat)(ha:a<m)(hb:b<m)(hm:m+m≤M)(w:World):
 Cg 154 #[.agg (nw 9 m),.agg (nw 9 a),.agg (nw 9 b)] w (.agg (nw 9 ((a+m-b)%m))):=by
 obtain⟨D,hD⟩:=exl ((a+M-b)%M)
 have hDM:D<M:=by rw[←hD];exact Nat.mod_lt _ M_pos
 have HS:=fun w=>sub_any a b (by omega) (by omega) w
 by_cases hl:a<b
 ·rw[hD,decide_eq_true hl]at HS;have HS':Hid _:=HS;obtain⟨E,hE⟩:=exl ((D+m)%M);obtain⟨β,hβ⟩:=exl (decide (M≤D+m))
  have HA:Hid _:=fun w=>by
   have:=add_any D m hDM (by omega) w;rw[hE,hβ]at this;exact this
  have e:(a+m-b)%m=E:=by
   rw[Nat.mod_eq_of_lt (show a+M-b<M by omega)]at hD;rw[←hE,←hD,show a+M-b+m=(a+m-b)+M by omega,Nat.add_mod_right,Nat.mod_eq_of_lt (show a+m-b<m by omega),Nat.mod_eq_of_lt (show a+m-b<M by omega)]
  rw[e]
  go_enter func154,ntmps154
  go_wp2_with (first
   | (go_at_call 158;refine(HA.out _).mono ?_;rintro e w' ⟨rfl,g,rfl⟩)
   | (go_at_call 69;refine(HS'.out _).mono ?_;rintro e w' ⟨rfl,g2,rfl⟩))
  refine bodyPost_ret (res_one results154 (rd_nat (by rfl) ?_)) rfl ⟨rfl,grA⟩;simp[go_sem]
 ·rw[hD,decide_eq_false hl]at HS;have HS':Hid _:=HS
  have e:(a+m-b)%m=D:=by
   rw[←hD,show a+M-b=(a-b)+M by omega,Nat.add_mod_right,show a+m-b=(a-b)+m by omega,Nat.add_mod_right,Nat.mod_eq_of_lt (show a-b<m by omega),Nat.mod_eq_of_lt (show a-b<M by omega)]
  rw[e]
  go_enter func154,ntmps154
  go_wp2_with (go_at_call 69;refine(HS'.out _).mono ?_;rintro e w' ⟨rfl,g2,rfl⟩)
  refine bodyPost_ret (res_one results154 (rd_nat (by rfl) ?_)) rfl ⟨rfl,grA⟩;simp[go_sem]
theorem fred_any(m W:Nat)(h0:0<m)(hM:m<M)(hW:W<pw 18)(w:World):
 Cg 159 #[.agg (nw 9 m),.agg (nw 18 W)] w (.agg (nw 9 (W%m))):=by
 have HM:=fun w=>mod_any W m h0 hM hW w;obtain⟨R,hR⟩:=exl (W%m);rw[hR]at HM ⊢;have HM':Hid _:=HM
 go_enter func159,ntmps159
 go_wp2_with (go_at_call 164;refine(HM'.out _).mono ?_;rintro e w' ⟨rfl,g2,rfl⟩)
 refine bodyPost_ret (res_one results159 (rd_nat (by rfl) ?_)) rfl ⟨rfl,grA⟩;simp[go_sem]
theorem fmul_any(m a b:Nat)(h0:0<m)(hM:m<M)(ha:a<M)(hb:b<M)(w:World):
 Cg 155 #[.agg (nw 9 m),.agg (nw 9 a),.agg (nw 9 b)] w (.agg (nw 9 (a*b%m))):=by
 have HR:=fun w=>fred_any m (a*b) h0 hM (mul_pwj a b 9 18 rfl ha hb) w;have HU:=fun w=>mul_any a b ha hb w;obtain⟨R,hR⟩:=exl (a*b%m);obtain⟨X,hX⟩:=exl (a*b);rw[hR]at HR ⊢;rw[hX]at HR HU;have HR':Hid _:=HR;have HU':Hid _:=HU
 go_enter func155,ntmps155
 go_wp2_with fail
 go_region_with (first
  | (go_at_call 160;refine(HU'.out _).mono ?_;rintro e w' ⟨rfl,g,rfl⟩)
  | (go_at_call 159;refine(HR'.out _).mono ?_;rintro e w' ⟨rfl,g2,rfl⟩))
 all_goals
  go_wp2_with fail
  refine bodyPost_ret (res_one results155 (rd_nat (by rfl) ?_)) rfl ⟨rfl,grA⟩;simp[go_sem]
end
section
attribute [local go_sem ↓] uz3
attribute [local go_sem] uz4 ones_nw
attribute [local go_sem ↓] uz6 Go.wp_at_zero Go.wp_at_succ
attribute [local go_sem] loadMd storeMd buildMd0 buildMd1 blk_other
structure Cl(v:World)(b x:Nat):Prop where
 h:blk v b=nw 9 x
 f:frz v b=(0,0)
 p:Pre (b+1) v.heap.size
theorem Cl.gr{v v':World}{b x:Nat}(h:Cl v b x)(k:Gr v v'):Cl v' b x:=
 ⟨by rw[k.blk _ h.p];exact h.h,by rw[k.frz _ h.p];exact h.f,Nat.le_trans h.p k.below.size⟩
end
end
end Go.Proofs.YtghidgcekieljaaGreat