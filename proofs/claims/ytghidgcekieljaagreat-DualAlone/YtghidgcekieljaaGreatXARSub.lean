import Derived.Shelf.Bits.Mul64
import Derived.Test.YtghidgcekieljaaGreatXASl
import Derived.Test.YtghidgcekieljaaGreatXAKr
namespace Go.Proofs.YtghidgcekieljaaGreat
open Go.RowKit Go.Proofs.Tryz
set_option maxRecDepth 100000
set_option maxHeartbeats 8000000
section
attribute [local go_sem ↓] uz1
attribute [local go_sem] uz2
section
theorem digits_in(w:World)(p:Option Addr)(x n:Nat)(h:Sl w p x):∀(i:Int) (j:Nat) (v:World),i=(j:Int)→Gr w v→Calls prog 42 #[.slice p (dl x) n,.int .i64 i] v fun e w'=>e=.returned (.int .u64 ((dg x j:Nat):Int))∧w'=v:=fun i j v e g=>by
 subst e;exact digit_any v p x n j (h.gr g)
theorem wd_mod(x n k:Nat)(h:k<n):wd (x%pw n) k=wd x k:=by
 obtain⟨d,rfl⟩:∃d,n=k+1+d:=⟨n-(k+1),by omega⟩;unfold wd;rw[pw_add,pow_succ64,Nat.mul_assoc,Nat.mod_mul_right_div_self,Nat.mod_mul_right_mod]
theorem nw_mod(x n:Nat):nw n (x%pw n)=nw n x:=by
 apply Array.ext_getElem?
 intro j
 by_cases hj:j<n
 ·rw[nw_get _ _ _ hj,nw_get _ _ _ hj,wd_mod x n j hj]
 ·rw[Array.getElem?_eq_none (by rw[nw_size];omega),Array.getElem?_eq_none (by rw[nw_size];omega)]
theorem or_word(x k:Nat):bits BinOp.or IntKind.u64 ((dg x (2*k):Nat):Int) (IntKind.u64.wrap (((dg x (2*k+1):Nat):Int)*4294967296))=((wd x k:Nat):Int):=by
 have h0:=dg_lt x (2*k);have h1:=dg_lt x (2*k+1);rw[wd_two];generalize dg x (2*k)=d at *;generalize dg x (2*k+1)=e at *
 have e1:IntKind.u64.wrap ((e:Int)*4294967296)=((e*4294967296:Nat):Int):=by rw[IntKind.wrap_u64];omega
 rw[e1,bits_or_u64_nat d (e*4294967296) (by omega) (by omega)];have e2:=Nat.two_pow_add_eq_or_of_lt (i:=32) h0 e;rw[Nat.or_comm,show e*4294967296=2^32*e from Nat.mul_comm _ _,←e2,Nat.add_comm]
theorem rnat_any(x n:Nat)(p:Option Addr)(w:World)(h:Sl w p x):Cg 19 #[.slice p (dl x) n] w (.agg (nw 9 x)):=by
 have cd:=digits_in w p x n h;obtain⟨L,hL⟩:=exl (dl x);rw[hL]at cd ⊢;have CD:Hid _:=cd
 go_enter func19,ntmps19
 go_wp2
 go_loopw [4] (fun i wr=>∃k:Nat,k≤9∧i=.int .i64 (k:Int)∧wr=(w.alloc (.cells (nw 9 0) 25)).alloc (.cells (nw 9 (x%pw k)) 25)) (fun i _=>9-(intOf i).toNat)
 case atStart=>exact⟨0,by omega,rfl,by rw[pw_zero,Nat.mod_one]⟩
 case round=>
  obtain⟨k,hk,rfl,rfl⟩:=hrel
  by_cases hlt:k<9
  ·have k0:(0:Int)≤(k:Int):=by omega
   obtain⟨V,hV⟩:=exl (x%pw k);rw[hV];have HV:Hu (_):=fun _=>hV
   go_wp2_with (first
    | (go_at_call 42;refine(CD.out _ (2*k) _ ?_ ?_).mono ?_;omega;exact grA;rintro e w' ⟨rfl,rfl⟩)
    | (go_at_call 42;refine(CD.out _ (2*k+1) _ ?_ ?_).mono ?_;omega;exact grA;rintro e w' ⟨rfl,rfl⟩))
   go_roundw
   case rel=>
    refine⟨k+1,by omega,by go_num,?_⟩;rw[or_word,nw_set_top 9 V k _ (wd_lt x k) (by rw[←HV.out ()];exact Nat.mod_lt _ (pw_pos k)),mod_succ,HV.out ()]
   case measure=>simp[intOf];omega
  ·have hk9:Hu (k=9):=fun _=>by omega
   obtain⟨V,hV⟩:=exl (x%pw k)
   have HV:Hu (nw 9 V=nw 9 x):=fun _=>by rw[←hV,hk9.out (),nw_mod]
   rw[hV]
   go_wp2
   exact bodyPost_ret (v:=.agg (nw 9 V)) (by simp[results,results19,go_sem,nw9_lit]) rfl ⟨by rw[HV.out ()],grA⟩
end
section
theorem dg_i(x k:Nat):((dg x k:Nat):Int)%4294967296=((dg x k:Nat):Int):=by have:=dg_lt x k;omega
theorem mask_wd(a k:Nat):bits BinOp.and IntKind.u64 ((wd a k:Nat):Int) 4294967295=((dg a (2*k):Nat):Int):=by
 rw[Mul64.maskN _ (wd_lt a k),dg_even]
theorem half_wd(a k:Nat):((wd a k:Nat):Int)/4294967296=((dg a (2*k+1):Nat):Int):=by
 rw[dg_odd];omega
theorem pq_M:pq 18=M:=pq_two 9
theorem from_any(a:Nat)(ha:a<M)(w:World):Calls prog 9 #[.agg (nw 9 a)] w (Nm a w):=by
 have hmk:∀w,(Instr.makeSlice 29 (.int .i64 18) (.int .i64 18)).run prog w=.ok (.slice (some ⟨w.heap.size,0,none⟩) 18 18) (w.alloc (.cells (nd 18 0) 61)):=fun w=>make_digits 18 (by decide) w;have HA:Hu (a<M):=fun _=>ha;clear ha
 go_enter func9,ntmps9
 go_wp2
 clear hmk
 go_loopw [4] (fun i wr=>∃k:Nat,k≤9∧i=.int .i64 (k:Int)∧wr=(w.alloc (.cells (nw 9 a) 25)).alloc (.cells (nd 18 (a%pq (2*k))) 61)) (fun i _=>9-(intOf i).toNat)
 case atStart=>exact⟨0,by omega,rfl,by rw[Nat.mul_zero,pq_zero,Nat.mod_one]⟩
 case round=>
  obtain⟨k,hk,rfl,rfl⟩:=hrel
  by_cases hlt:k<9
  ·have k0:(0:Int)≤(k:Int):=by omega
   have k1:(k:Int)<9:=by omega
   have ga:=nw_get 9 a k hlt;have m1:=mask_wd a k;have m2:=half_wd a k;have m3:=dg_i a (2*k);have m4:=dg_i a (2*k+1);have s1:=nd_next 18 a (2*k);have s2:=nd_next 18 a (2*k+1);obtain⟨V,hV⟩:=exl (a%pq (2*k));obtain⟨V1,hV1⟩:=exl (a%pq (2*k+1));obtain⟨V2,hV2⟩:=exl (a%pq (2*k+1+1));rw[hV,hV1]at s1;rw[hV1,hV2]at s2;rw[hV];have gV:=nd_get 18 V (2*k) (by omega);have gV1:=nd_get 18 V1 (2*k+1) (by omega);have HV:Hu (V2=a%pq (2*(k+1))):=fun _=>hV2.symm
   go_wp2
   go_roundw
   case rel=>exact⟨k+1,by omega,by go_num,by rw[←HV.out ()]⟩
   case measure=>simp[intOf];omega
  ·have hk9:Hu (k=9):=fun _=>by omega
   obtain⟨V,hV⟩:=exl (a%pq (2*k))
   have HV:Hu (V=a):=fun _=>by rw[←hV,hk9.out (),pq_M,Nat.mod_eq_of_lt (HA.out ())]
   rw[hV]
   have hVq:V<pq 18:=by rw[HV.out (),pq_M];exact HA.out ()
   have HQ:Hu (V<pq 18):=fun _=>hVq
   go_wp2_with (go_at_call 35;refine(trim_nd _ _ 18 V (by decide) (HQ.out ()) (by simp[go_sem])).mono ?_;rintro e w' ⟨rfl,rfl⟩)
   go_ret
   exact Nm.mk (HV.out ()) (HQ.out ()) (by simp[go_sem]) (by simp[go_sem]) grA
end
section
theorem pq_pow(q r:Nat):(2:Nat)^(32*q+r)=2^r*pq q:=by unfold pq;rw[Nat.pow_add,Nat.mul_comm]
theorem shl_bound(x i q r:Nat):(x%pq i)*2^(32*q+r)<2^r*pq (i+q):=by
 rw[pq_pow,pq_add,Nat.mul_left_comm,Nat.mul_left_comm (2^r),←Nat.mul_assoc];have h1:x%pq i<pq i:=Nat.mod_lt _ (pq_pos i);rw[Nat.mul_assoc,Nat.mul_left_comm]
 exact Nat.mul_lt_mul_of_pos_left (by
  rw[Nat.mul_comm,Nat.mul_comm (pq i)]
  exact Nat.mul_lt_mul_of_pos_left h1 (pq_pos q)) (Nat.two_pow_pos r)
theorem pow32(r:Nat)(hr:r<32):2^r*2^(32-r)=4294967296:=by
 rw[←Nat.pow_add,show r+(32-r)=32 by omega]
theorem shl_dig(V j r:Nat)(hr:r<32)(h:V<2^r*pq j):dg V j<2^r∧V<pq (j+1):=by
 have h2:=pow32 r hr;have h3:0<2^(32-r):=Nat.two_pow_pos _
 have h4:2^r≤4294967296:=by rw[←h2];exact Nat.le_mul_of_pos_right _ h3
 constructor
 ·unfold dg
  have:V/pq j<2^r:=by rw[Nat.div_lt_iff_lt_mul (pq_pos j)];exact h
  rw[Nat.mod_eq_of_lt (by omega)];exact this
 ·rw[pq_succ,Nat.mul_comm];exact Nat.lt_of_lt_of_le h (Nat.mul_le_mul_right _ h4)
theorem shl_or(h X r:Nat)(hr:r<32)(h1:h<2^r):h|||(X*2^r%4294967296)=h+X*2^r%4294967296:=by
 have e:X*2^r%4294967296=2^r*(X%2^(32-r)):=by
  rw[←pow32 r hr,Nat.mul_comm X,Nat.mul_mod_mul_left]
 rw[e,Nat.or_comm,←Nat.two_pow_add_eq_or_of_lt h1,Nat.add_comm]
theorem shl_or_lt(h X r:Nat)(hr:r<32)(h1:h<2^r):h+X*2^r%4294967296<4294967296:=by
 have e:X*2^r%4294967296=2^r*(X%2^(32-r)):=by
  rw[←pow32 r hr,Nat.mul_comm X,Nat.mul_mod_mul_left]
 have h2:X%2^(32-r)<2^(32-r):=Nat.mod_lt _ (Nat.two_pow_pos _);have h3:2^r*(X%2^(32-r)+1)≤2^r*2^(32-r):=Nat.mul_le_mul_left _ h2;rw[Nat.mul_add,Nat.mul_one,pow32 r hr]at h3;rw[e]
 omega
theorem shl_set(N V j T:Nat)(hV:V<pq (j+1))(h:dg V j+T%4294967296<4294967296)(hT:T/4294967296<4294967296):
 ((nd N V).setIfInBounds j (.int .u32 ((dg V j+T%4294967296:Nat):Int))).setIfInBounds (j+1) (.int .u32 ((T/4294967296:Nat):Int))=nd N (V+T*pq j):=by
 obtain⟨u,hu⟩:=exl (T%4294967296);obtain⟨v,hv⟩:=exl (T/4294967296);have hd:=Nat.div_add_mod T 4294967296;rw[hu]at h;rw[hv]at hT;rw[hu,hv]at hd ⊢
 have e1:dset V j (dg V j+u)=V+u*pq j:=by
  unfold dset;have hp:=dparts V j;rw[Nat.div_eq_of_lt hV,Nat.zero_mul,Nat.add_zero]at hp ⊢;rw[Nat.add_mul]
  omega
 rw[nd_dset N V j _ h,e1]
 have hlt:V+u*pq j<pq (j+1):=by
  rw[←e1];exact dset_lt V j _ (j+1) hV (by omega) h
 rw[nd_set_top N _ (j+1) _ hT hlt];refine congrArg (nd N) ?_;rw[pq_succ,Nat.mul_comm (pq j),←Nat.mul_assoc]
 have e2:(4294967296*v+u)*pq j=T*pq j:=by rw[hd]
 rw[Nat.add_mul]at e2;rw[Nat.mul_comm v]
 omega
theorem shl_next(x i q r:Nat):(x%pq i)*2^(32*q+r)+dg x i*2^r*pq (i+q)=(x%pq (i+1))*2^(32*q+r):=by
 rw[dmod_succ,Nat.add_mul,pq_pow,pq_add]
 have e:dg x i*2^r*(pq i*pq q)=dg x i*pq i*(2^r*pq q):=by
  rw[Nat.mul_assoc,Nat.mul_assoc,Nat.mul_left_comm (2^r)]
 rw[e]
theorem bits_or32(a b:Nat)(ha:a<4294967296)(hb:b<4294967296):bits .or .u32 (a:Int) (b:Int)=((a|||b:Nat):Int):=by
 have hx:a|||b<2^32:=Nat.or_lt_two_pow (by omega) (by omega)
 have h1:(BitVec.ofInt 32 (a:Int)).toNat=a:=by
  rw[BitVec.ofInt_natCast,BitVec.toNat_ofNat];exact Nat.mod_eq_of_lt (by omega)
 have h2:(BitVec.ofInt 32 (b:Int)).toNat=b:=by
  rw[BitVec.ofInt_natCast,BitVec.toNat_ofNat];exact Nat.mod_eq_of_lt (by omega)
 show IntKind.u32.wrap ((BitVec.ofInt 32 (a:Int)|||BitVec.ofInt 32 (b:Int)).toNat:Int)=_
 rw[BitVec.toNat_or,h1,h2,IntKind.wrap_u32]
 omega
theorem shl_round(x j q r N V:Nat)(hr:r<32)(hV:(x%pq j)*2^(32*q+r)=V):
 ∃T u v o V1 V2:Nat,IntKind.u64.wrap ((dg x j:Nat):Int)=((dg x j:Nat):Int)∧((dg x j:Nat):Int)*2^r=(T:Int)∧IntKind.u64.wrap (T:Int)=(T:Int) ∧
  bits BinOp.and IntKind.u64 (T:Int) 4294967295=(u:Int)∧(u:Int)%4294967296=(u:Int)∧bits BinOp.or IntKind.u32 ((dg V (j+q):Nat):Int) (u:Int)=(o:Int) ∧
  (T:Int)/4294967296=(v:Int)∧(v:Int)%4294967296=(v:Int)∧(nd N V).setIfInBounds (j+q) (.int .u32 (o:Int))=nd N V1∧(nd N V1).setIfInBounds (j+q+1) (.int .u32 (v:Int))=nd N V2 ∧
  V2=(x%pq (j+1))*2^(32*q+r):=by
 have hd:=dg_lt x j;have hb:=shl_bound x j q r;rw[hV]at hb;obtain⟨h1,h2⟩:=shl_dig V (j+q) r hr hb;have h3:=shl_or (dg V (j+q)) (dg x j) r hr h1;have h4:=shl_or_lt (dg V (j+q)) (dg x j) r hr h1;have h5:=shl_next x j q r;rw[hV]at h5
 have hT:dg x j*2^r<18446744073709551616:=by
  have e1:=Nat.mul_le_mul_right (2^r) (show dg x j≤4294967295 by omega)
  have e2:2^r≤4294967296:=by rw[←pow32 r hr];exact Nat.le_mul_of_pos_right _ (Nat.two_pow_pos _)
  omega
 have h6:=shl_set N V (j+q) (dg x j*2^r) h2 h4 (by omega)
 have ec:((dg x j:Nat):Int)*2^r=((dg x j*2^r:Nat):Int):=by rw[int_pow,Int.natCast_mul]
 generalize dg x j*2^r=T at *
 refine⟨T,T%4294967296,T/4294967296,dg V (j+q)+T%4294967296,dset V (j+q) (dg V (j+q)+T%4294967296),V+T*pq (j+q),?_,ec,?_,Mul64.maskN T hT,by omega,?_,by omega,by omega,nd_dset N V (j+q) _ h4,?_,h5⟩
 ·rw[IntKind.wrap_u64];omega
 ·rw[IntKind.wrap_u64];omega
 ·rw[bits_or32 _ _ (dg_lt _ _) (Nat.mod_lt _ (by decide)),h3]
 ·rw[←nd_dset N V (j+q) _ h4];exact h6
theorem rshl_any(x n k:Nat)(p:Option Addr)(w:World)(hp:Sl w p x)(hx:dl x≤50000)(hk:k≤32000):
 Calls prog 62 #[.slice p (dl x) n,.int .i64 (k:Int)] w (Nm (x*2^k) w):=by
 have lx:=dl_lt x;unfold Sl at hp;obtain⟨X,hX⟩:=exl (dl x);rw[hX]at lx hx hp ⊢;obtain⟨q,r,hqr,hr⟩:∃q r,k=32*q+r∧r<32:=⟨k/32,k%32,by omega,by omega⟩
 have e2:(k:Int)/32=(q:Int):=by omega
 have e3:(k:Int)%32=(r:Int):=by omega
 have d2:(k:Int).tdiv 32=(q:Int):=by rw[Int.tdiv_eq_ediv_of_nonneg (by omega)];exact e2
 have d3:(k:Int).tmod 32=(r:Int):=by rw[Int.tmod_eq_emod_of_nonneg (by omega)];exact e3
 obtain⟨N,hN⟩:=exl (X+q+1)
 have hN':(X:Int)+(q:Int)+1=(N:Int):=by omega
 have hmk:∀w,(Instr.makeSlice 29 (.int .i64 (N:Int)) (.int .i64 (N:Int))).run prog w=.ok (.slice (some ⟨w.heap.size,0,none⟩) N N) (w.alloc (.cells (nd N 0) 61)):=fun w=>make_digits N (by omega) w
 have kb:Hu (N≤100000):=fun _=>by omega
 have x1:(X:Int)≤50000:=by omega
 have q1:(q:Int)≤1000:=by omega
 have r0:(0:Int)≤(r:Int):=by omega
 have r1:(r:Int)<32:=by omega
 have HP:Hid _:=hp;have HX:Hu (_):=fun _=>lx;have HN:Hu (_):=fun _=>hN;have HK:Hu (_):=fun _=>hqr;have HR:Hu (_):=fun _=>hr;clear lx hX hp hx hN hk hqr hr
 go_enter func62,ntmps62
 go_wp2
 clear hmk
 go_loopw [6] (fun i wr=>∃j:Nat,j≤X∧i=.int .i64 (j:Int)∧wr=w.alloc (.cells (nd N ((x%pq j)*2^k)) 61)) (fun i _=>X-(intOf i).toNat)
 case atStart=>exact⟨0,by omega,rfl,by rw[pq_zero,Nat.mod_one,Nat.zero_mul]⟩
 case round=>
  obtain⟨j,hj,rfl,rfl⟩:=hrel
  by_cases hlt:j<X
  ·have j0:(0:Int)≤(j:Int):=by omega
   have j1:(j:Int)<(X:Int):=by omega
   obtain⟨b,rfl,hb,gb⟩:=HP.out j hlt
   have g1:w.cell? ⟨b,j,none⟩=some (.int .u32 ((dg x j:Nat):Int)):=by rw[cell_blk];exact gb
   obtain⟨V,hV⟩:=exl ((x%pq j)*2^k);rw[hV]
   have hjq:j+q<N:=by have:=HN.out ();omega
   have gV:=nd_get N V (j+q) hjq
   have ji:(j:Int)+(q:Int)<(N:Int):=by omega
   have ji1:(j:Int)+(q:Int)+1<(N:Int):=by omega
   have hV':=hV;rw[HK.out ()]at hV';obtain⟨T,u,v,o,V1,V2,f1,f2,f3,f4,f5,f6,f7,f8,f9,f10,f11⟩:=shl_round x j q r N V (HR.out ()) hV'
   have hjq1:j+q+1<N:=by have:=HN.out ();omega
   have gV1:=nd_get N V1 (j+q+1) hjq1
   have HV2:Hu (V2=(x%pq (j+1))*2^k):=fun _=>by rw[HK.out ()];exact f11
   clear hlt gb hV hV' f11
   go_wp2
   go_roundw
   case rel=>exact⟨j+1,by omega,by go_num,by rw[HV2.out ()]⟩
   case measure=>simp[intOf];omega
  ·have hjX:j=X:=by omega
   obtain⟨V,hV⟩:=exl ((x%pq j)*2^k);rw[hV]
   have HV:Hu (V=x*2^k):=fun _=>by rw[←hV,hjX,Nat.mod_eq_of_lt (HX.out ())]
   have HB:Hu (V<pq N):=fun _=>by
    have h1:=shl_bound x j q r;rw[←HK.out (),hV,hjX]at h1;rw[←HN.out ()];exact(shl_dig V (X+q) r (HR.out ()) h1).2
   go_wp2_with (go_at_call 35;refine(trim_nd _ _ N V (kb.out ()) (HB.out ()) (by simp[go_sem])).mono ?_;rintro e w' ⟨rfl,rfl⟩)
   go_ret
   exact Nm.mk (HV.out ()) (HB.out ()) (by simp[go_sem]) (by simp[go_sem]) grA
end
section
theorem nd_one(x:Nat)(hx:x<4294967296) : #[Value.int .u32 (x:Int)]=nd 1 x:=by
 have e:dg x 0=x:=by unfold dg;rw[pq_zero,Nat.div_one,Nat.mod_eq_of_lt hx]
 show _ =#[Value.int .u32 ((dg x 0:Nat):Int)]
 rw[e]
def bslS(t:TypeId)(n:Nat)(p:Array (Nat×Value)):Sem Value:=Instr.buildSlice t n p
theorem bsl_is(n:Nat)(p:Array (Nat×Value)):Instr.buildSlice 29 n p=bslS 29 n p:=rfl
theorem build1'(x:Nat)(w:World):(bslS 29 1 #[(0,.int .u32 (x:Int))]).run prog w=.ok (.slice (some ⟨w.heap.size,0,none⟩) 1 1) (w.alloc (.cells #[.int .u32 (x:Int)] 61)):=by
 kernel_rfl
theorem build1(x:Nat)(hx:x<4294967296)(w:World):(bslS 29 1 #[(0,.int .u32 (x:Int))]).run prog w=.ok (.slice (some ⟨w.heap.size,0,none⟩) 1 1) (w.alloc (.cells (nd 1 x) 61)):=by
 rw[build1' x w,nd_one x hx]
def Nm2(x y:Nat)(w:World)(e:Ending)(w':World):Prop:=∃p n p' n',e=.returned (.tuple #[.slice p (dl x) n,.slice p' (dl y) n'])∧Sl w' p x∧Sl w' p' y∧Gr w w'
end
section
theorem dbl_top(x j:Nat)(hx:x<pq (j+1))(h:dg x j≠0):bl x=32*j+bl (dg x j):=by
 have e:x/2^(32*j)=dg x j:=by
  unfold dg
  show x/pq j=_
  rw[Nat.mod_eq_of_lt];rw[pq_succ]at hx;rw[Nat.div_lt_iff_lt_mul (pq_pos j),Nat.mul_comm];exact hx
 rw[←e];refine bl_shift x (32*j) ?_
 by_cases hl:2^(32*j)≤x
 ·exact hl
 ·exfalso
  apply h
  rw[←e,Nat.div_eq_of_lt (by omega)]
theorem rbits_any(x n:Nat)(p:Option Addr)(w:World)(hp:Sl w p x)(hx:dl x≤50000):
 Calls prog 40 #[.slice p (dl x) n] w fun e w'=>e=.returned (.int .i64 ((bl x:Nat):Int))∧w'=w:=by
 obtain hz|⟨j,hj⟩:dl x=0∨∃j,dl x=j+1:=by
  cases dl x with
  | zero=>exact Or.inl rfl
  | succ j=>exact Or.inr ⟨j,rfl⟩
 ·have hx0:=dl_eq_zero x hz;subst hx0;rw[hz];clear hp
  go_enter func40,ntmps40
  go_wp2
  go_ret
  exact⟨rfl,rfl⟩
 ·obtain⟨b,rfl,hb,hc⟩:=hp j (by omega);have hlx:=dl_lt x;rw[hj]at hx hlx ⊢
  have hne:dg x j≠0:=fun h0=>by
   have:=(dl_le x j).2 (dl_top_zero x j hlx h0)
   omega
  have hB:=dbl_top x j hlx hne;have hl:=dg_lt x j;have hb32:=(bl_le _ 32).2 hl
  have hg:w.cell? ⟨b,j,none⟩=some (.int .u32 ((dg x j:Nat):Int)):=by rw[cell_blk];exact hc
  have j0:(0:Int)≤(j:Int):=by omega
  have j1:(j:Int)<50000:=by omega
  obtain⟨L,hL⟩:=exl (j+1);rw[hL]
  have e1:(L:Int)-1=(j:Int):=by omega
  have e3:((L:Int)==0)=false:=by rw[beq_eq_false_iff_ne];omega
  have e4:(j:Int)<(L:Int):=by omega
  obtain⟨D,hD⟩:=exl (dg x j);obtain⟨B,hBx⟩:=exl (bl x);rw[hD]at hB hl hg hb32;rw[hBx]at hB ⊢;have HB:Hu (_):=fun _=>hB;have HL:Hu (_):=fun _=>hb32
  have HX:Hu (j<50000):=fun _=>by omega
  clear hB hBx hD hc hne hlx hj hb32 hp hx hL
  go_enter func40,ntmps40
  go_wp2
  go_loopw [3,4] (fun k v wr=>∃K V:Nat,k=.int .i64 (K:Int)∧v=.int .u32 (V:Int)∧(V:Int)<4294967296∧(K:Int)≤1700000∧Hu (K+bl V=B)∧wr=w) (fun _ v _=>(intOf v).toNat)
  case atStart=>exact⟨32*j,D,by go_num,rfl,by omega,by have:=HX.out ();omega,fun _=>(HB.out ()).symm,rfl⟩
  case round=>
   obtain⟨K,V,rfl,rfl,hV,hK,HE,rfl⟩:=hrel
   by_cases h0:V=0
   ·subst h0
    have HK:Hu (K=B):=fun _=>by have:=HE.out ();rw[bl_zero]at this;omega
    go_wp2
    go_ret
    exact⟨by rw[HK.out ()];rfl,rfl⟩
   ·have v0:(0:Int)<(V:Int):=by omega
    have HN:Hu (K+1+bl (V/2)=B):=fun _=>by have:=HE.out ();rw[bl_half V h0]at this;omega
    have HW:Hu (V<4294967296):=fun _=>by omega
    clear hV HE h0 e1 e3 e4 j0 j1 hl hb hg
    go_wp2
    go_roundw
    case rel=>exact⟨K+1,V/2,by go_num,by go_num,by have:=HW.out ();omega,by have:=HN.out ();have:=HB.out ();have:=HL.out ();have:=HX.out ();omega,HN,trivial⟩
    case measure=>simp[intOf];omega
end
section
theorem shr_dig(x i q r:Nat)(hr:r<32):(dg x (i+q)+dg x (i+q+1)*4294967296)/2^r%4294967296=dg (x/2^(32*q+r)) i:=by
 have e:dg x (i+q)+dg x (i+q+1)*4294967296=x/2^(32*(i+q))%2^64:=by
  unfold dg pq;rw[show 32*(i+q+1)=32*(i+q)+32 by omega,Nat.pow_add,←Nat.div_div_eq_div_mul];generalize x/2^(32*(i+q))=y
  omega
 rw[e];unfold dg pq;rw[show (4294967296:Nat)=2^32 from rfl]
 apply Nat.eq_of_testBit_eq
 intro j;rw[Nat.testBit_mod_two_pow,Nat.testBit_mod_two_pow,←Nat.shiftRight_eq_div_pow,←Nat.shiftRight_eq_div_pow,←Nat.shiftRight_eq_div_pow,←Nat.shiftRight_eq_div_pow,Nat.testBit_shiftRight,Nat.testBit_mod_two_pow,Nat.testBit_shiftRight,Nat.testBit_shiftRight,Nat.testBit_shiftRight]
 by_cases hj:j<32
 ·rw[decide_eq_true hj,decide_eq_true (show r+j<64 by omega),Bool.true_and,Bool.true_and,Bool.true_and]
  congr 1
  omega
 ·rw[decide_eq_false hj,Bool.false_and,Bool.false_and]
theorem shr_round(x j q r:Nat)(hr:r<32):∃T S:Nat,bits BinOp.or IntKind.u64 ((dg x (j+q):Nat):Int) (IntKind.u64.wrap (((dg x (j+q+1):Nat):Int)*4294967296))=(T:Int) ∧
 (T:Int)/2^r=(S:Int)∧bits BinOp.and IntKind.u64 (S:Int) 4294967295=((dg (x/2^(32*q+r)) j:Nat):Int):=by
 have h0:=dg_lt x (j+q);have h1:=dg_lt x (j+q+1);have h2:=shr_dig x j q r hr;generalize dg x (j+q)=d at *;generalize dg x (j+q+1)=e at *;have h3:(d+e*4294967296)/2^r≤d+e*4294967296:=Nat.div_le_self _ _
 refine⟨d+e*4294967296,(d+e*4294967296)/2^r,?_,?_,?_⟩
 ·have e1:IntKind.u64.wrap ((e:Int)*4294967296)=((e*4294967296:Nat):Int):=by rw[IntKind.wrap_u64];omega
  rw[e1,bits_or_u64_nat d (e*4294967296) (by omega) (by omega)];have e2:=Nat.two_pow_add_eq_or_of_lt (i:=32) h0 e;rw[Nat.or_comm,show e*4294967296=2^32*e from Nat.mul_comm _ _,←e2,Nat.add_comm]
 ·rw[int_pow,←Int.natCast_ediv]
 ·rw[←h2];exact Mul64.maskN _ (by omega)
theorem shr_lt(x q r D:Nat)(h:x<pq (D+q)):x/2^(32*q+r)<pq D:=by
 rw[Nat.div_lt_iff_lt_mul (Nat.two_pow_pos _)];refine Nat.lt_of_lt_of_le h ?_;unfold pq;rw[←Nat.pow_add];exact Nat.pow_le_pow_right (by decide) (by omega)
theorem rshr_any(x n k:Nat)(p:Option Addr)(w:World)(hp:Sl w p x)(hx:dl x≤50000)(hk:k≤1000000):
 Calls prog 52 #[.slice p (dl x) n,.int .i64 (k:Int)] w (Nm (x/2^k) w):=by
 have lx:=dl_lt x;have cd:=digits_in w p x n hp;obtain⟨X,hX⟩:=exl (dl x);rw[hX]at lx hx cd ⊢;obtain⟨q,r,hqr,hr⟩:∃q r,k=32*q+r∧r<32:=⟨k/32,k%32,by omega,by omega⟩
 have e2:(k:Int)/32=(q:Int):=by omega
 have e3:(k:Int)%32=(r:Int):=by omega
 have d2:(k:Int).tdiv 32=(q:Int):=by rw[Int.tdiv_eq_ediv_of_nonneg (by omega)];exact e2
 have d3:(k:Int).tmod 32=(r:Int):=by rw[Int.tmod_eq_emod_of_nonneg (by omega)];exact e3
 have k0:(0:Int)≤(k:Int):=by omega
 have r0:(0:Int)≤(r:Int):=by omega
 have r1:(r:Int)<32:=by omega
 by_cases hq:X≤q
 ·have hq':(X:Int)≤(q:Int):=by omega
  have hz:x/2^k=0:=by
   rw[hqr];have:=shr_lt x q r 0 (Nat.lt_of_lt_of_le lx (Nat.pow_le_pow_right (by decide) (by omega)));rw[pq_zero]at this;exact Nat.lt_one_iff.1 this
  have q1:(q:Int)≤1000000:=by omega
  rw[hz];clear hz cd lx hqr hx hk hr hp hX hq
  go_enter func52,ntmps52
  go_wp2
  go_ret
  exact⟨none,0,rfl,Sl.zero _ _,grA⟩
 ·obtain⟨N,hN⟩:∃N,X=N+q:=⟨X-q,by omega⟩
  have hN':(X:Int)-(q:Int)=(N:Int):=by omega
  have hq':¬(X:Int)≤(q:Int):=by omega
  have hmk:∀w,(Instr.makeSlice 29 (.int .i64 (N:Int)) (.int .i64 (N:Int))).run prog w=.ok (.slice (some ⟨w.heap.size,0,none⟩) N N) (w.alloc (.cells (nd N 0) 61)):=fun w=>make_digits N (by omega) w;have CD:Hid _:=cd
  have kb:Hu (N≤100000):=fun _=>by omega
  have n1:(N:Int)≤50000:=by omega
  have q1:(q:Int)≤50000:=by omega
  have HK:Hu (_):=fun _=>hqr;have HR:Hu (_):=fun _=>hr
  have HB:Hu (x/2^k<pq N):=fun _=>by rw[hqr];exact shr_lt x q r N (by rw[←hN];exact lx)
  clear cd lx hX hp hx hN hk hqr hr hq;obtain⟨Y,hY⟩:=exl (x/2^k);rw[hY]at HB ⊢;have HY:Hu (_):=fun _=>hY;clear hY
  go_enter func52,ntmps52
  go_wp2
  clear hmk
  go_loopw [6] (fun i wr=>∃j:Nat,j≤N∧i=.int .i64 (j:Int)∧wr=w.alloc (.cells (nd N (Y%pq j)) 61)) (fun i _=>N-(intOf i).toNat)
  case atStart=>exact⟨0,by omega,rfl,by rw[pq_zero,Nat.mod_one]⟩
  case round=>
   obtain⟨j,hj,rfl,rfl⟩:=hrel
   by_cases hlt:j<N
   ·have j0:(0:Int)≤(j:Int):=by omega
    have j1:(j:Int)<(N:Int):=by omega
    obtain⟨T,S,f1,f2,f3⟩:=shr_round x j q r (HR.out ());rw[←HK.out (),HY.out ()]at f3;obtain⟨V,hV⟩:=exl (Y%pq j);rw[hV];have gV:=nd_get N V j hlt;have f4:=dg_lt Y j
    have HS:Hu ((nd N V).setIfInBounds j (.int .u32 ((dg Y j:Nat):Int))=nd N (Y%pq (j+1))):=fun _=>by
     rw[nd_set_top N V j _ f4 (by rw[←hV];exact Nat.mod_lt _ (pq_pos j)),dmod_succ,hV]
    go_wp2_with (first
     | (go_at_call 42;refine(CD.out _ (j+q) _ ?_ ?_).mono ?_;omega;exact grA;rintro e w' ⟨rfl,rfl⟩)
     | (go_at_call 42;refine(CD.out _ (j+q+1) _ ?_ ?_).mono ?_;omega;exact grA;rintro e w' ⟨rfl,rfl⟩))
    go_roundw
    case rel=>exact⟨j+1,by omega,by go_num,by rw[HS.out ()]⟩
    case measure=>simp[intOf];omega
   ·have hjN:j=N:=by omega
    obtain⟨V,hV⟩:=exl (Y%pq j);rw[hV]
    have HV:Hu (V=Y):=fun _=>by rw[←hV,hjN,Nat.mod_eq_of_lt (HB.out ())]
    have HB':Hu (V<pq N):=fun _=>by rw[HV.out ()];exact HB.out ()
    go_wp2_with (go_at_call 35;refine(trim_nd _ _ N V (kb.out ()) (HB'.out ()) (by simp[go_sem])).mono ?_;rintro e w' ⟨rfl,rfl⟩)
    go_ret
    exact Nm.mk (HV.out ()) (HB'.out ()) (by simp[go_sem]) (by simp[go_sem]) grA
end
section
theorem dadd_all(x y k:Nat)(hx:x<pq k)(hy:y<pq k):daddS x y k+daddC x y k*pq k=x+y:=by
 unfold daddS daddC;rw[Nat.mod_eq_of_lt hx,Nat.mod_eq_of_lt hy,Nat.mul_comm,Nat.add_comm];exact Nat.div_add_mod (x+y) (pq k)
theorem dadd_lt(x y k:Nat)(hx:x<pq k)(hy:y<pq k):x+y<pq (k+1):=by
 rw[pq_succ]
 omega
theorem radd_any(x y n m:Nat)(p q:Option Addr)(w:World)(hp:Sl w p x)(hq:Sl w q y)(hx:dl x≤50000)(hy:dl y≤50000):
 Calls prog 50 #[.slice p (dl x) n,.slice q (dl y) m] w (Nm (x+y) w):=by
 have cx:=digits_in w p x n hp;have cy:=digits_in w q y m hq;have lx:=dl_lt x;have ly:=dl_lt y;obtain⟨X,hX⟩:=exl (dl x);obtain⟨Y,hY⟩:=exl (dl y);rw[hX]at cx lx hx ⊢;rw[hY]at cy ly hy ⊢;have hmx:∀w,(Instr.makeSlice 29 (.int .i64 ((X:Int)+1)) (.int .i64 ((X:Int)+1))).run prog w=.ok (.slice (some ⟨w.heap.size,0,none⟩) (X+1) (X+1)) (w.alloc (.cells (nd (X+1) 0) 61)):=fun w=>make_digits (X+1) (by omega) w;have hmy:∀w,(Instr.makeSlice 29 (.int .i64 ((Y:Int)+1)) (.int .i64 ((Y:Int)+1))).run prog w=.ok (.slice (some ⟨w.heap.size,0,none⟩) (Y+1) (Y+1)) (w.alloc (.cells (nd (Y+1) 0) 61)):=fun w=>make_digits (Y+1) (by omega) w
 have x1:(X:Int)≤50000:=by omega
 have y1:(Y:Int)≤50000:=by omega
 have CX:Hid _:=cx;have CY:Hid _:=cy;have HX:Hu (_):=fun _=>lx;have HY:Hu (_):=fun _=>ly;clear cx cy hp hq hX hY lx ly
 go_enter func50,ntmps50
 go_wp2
 ·have HX1:Hu (x<pq Y):=fun _=>Nat.lt_of_lt_of_le (HX.out ()) (pq_mono X Y (by omega));have HY1:=HY
  go_loopw [7,8] (fun c i wr=>∃k:Nat,k≤Y∧i=.int .i64 (k:Int)∧c=.int .u64 ((daddC x y k:Nat):Int)∧wr=w.alloc (.cells (nd (Y+1) (daddS x y k)) 61)) (fun _ i _=>Y-(intOf i).toNat)
  case atStart=>exact⟨0,by omega,rfl,by rw[daddC_zero];rfl,by rw[daddS_zero]⟩
  case round=>
   obtain⟨k,hk,rfl,rfl,rfl⟩:=hrel
   by_cases hlt:k<Y
   ·have k0:(0:Int)≤(k:Int):=by omega
    have k1:(k:Int)<(Y:Int):=by omega
    obtain⟨s,hs⟩:=exl (dg x k+dg y k+daddC x y k);have c1:=daddC_le x y k;have d1:=dg_lt x k;have e1:=dg_lt y k
    have hs':((dg x k:Nat):Int)+((dg y k:Nat):Int)+((daddC x y k:Nat):Int)=(s:Int):=by omega
    have s0:(0:Int)≤(s:Int):=by omega
    have s1:(s:Int)<18446744073709551616:=by omega
    have hm:=Mul64.maskN s (by omega)
    have hm2:((s%4294967296:Nat):Int)%4294967296=((s%4294967296:Nat):Int):=by omega
    have gV:=nd_get (Y+1) (daddS x y k) k (by omega);have HS:Hu (_):=fun _=>hs;clear hs c1 d1 e1;obtain⟨t,ht⟩:=exl (s%4294967296);rw[ht]at hm hm2;have HT:Hu (_):=fun _=>ht;clear ht
    go_wp2_with (first
     | (go_at_call_of 42 (Value.slice p X n);refine(CX.out _ k _ ?_ ?_).mono ?_;rfl;exact grA;rintro e w' ⟨rfl,rfl⟩)
     | (go_at_call 42;refine(CY.out _ k _ ?_ ?_).mono ?_;rfl;exact grA;rintro e w' ⟨rfl,rfl⟩))
    go_roundw
    case rel=>
     refine⟨k+1,by omega,by go_num,?_,?_⟩
     ·exact congrArg (Value.int .u64) (by rw[daddC_succ,HS.out ()];omega)
     ·rw[nd_set_top _ _ k t (by rw[←HT.out ()];exact Nat.mod_lt _ (by decide)) (daddS_lt x y k),daddS_succ,HS.out (),HT.out ()]
    case measure=>simp[intOf];omega
   ·have hkK:k=Y:=by omega
    have c1:=daddC_le x y k;have hv:=dadd_all x y k (by rw[hkK];exact HX1.out ()) (by rw[hkK];exact HY1.out ())
    have ki:¬(k:Int)<(Y:Int):=by omega
    have hset:=nd_set_top (Y+1) (daddS x y k) k (daddC x y k) (by omega) (daddS_lt x y k);rw[hv]at hset;obtain⟨V,hV⟩:=exl (daddS x y k);obtain⟨c,hc⟩:=exl (daddC x y k);rw[hV]at hset ⊢;rw[hc]at hset c1 ⊢
    have hcm:(c:Int)%4294967296=(c:Int):=by omega
    have gV:=nd_get (Y+1) V Y (by omega);rw[hkK]at hset;have HQ:Hu (_):=fun _=>dadd_lt x y Y (HX1.out ()) (HY1.out ())
    have kb:Y+1≤100000:=by omega
    clear hv hV hc hlt hk
    go_wp2_with (go_at_call 35;refine(trim_nd _ _ (Y+1) (x+y) kb (HQ.out ()) (by simp[go_sem])).mono ?_;rintro e w' ⟨rfl,rfl⟩)
    go_ret
    exact Nm.mk rfl (HQ.out ()) (by simp[go_sem]) (by simp[go_sem]) grA
 ·have HX1:=HX;have HY1:Hu (y<pq X):=fun _=>Nat.lt_of_lt_of_le (HY.out ()) (pq_mono Y X (by omega))
  go_loopw [7,8] (fun c i wr=>∃k:Nat,k≤X∧i=.int .i64 (k:Int)∧c=.int .u64 ((daddC x y k:Nat):Int)∧wr=w.alloc (.cells (nd (X+1) (daddS x y k)) 61)) (fun _ i _=>X-(intOf i).toNat)
  case atStart=>exact⟨0,by omega,rfl,by rw[daddC_zero];rfl,by rw[daddS_zero]⟩
  case round=>
   obtain⟨k,hk,rfl,rfl,rfl⟩:=hrel
   by_cases hlt:k<X
   ·have k0:(0:Int)≤(k:Int):=by omega
    have k1:(k:Int)<(X:Int):=by omega
    obtain⟨s,hs⟩:=exl (dg x k+dg y k+daddC x y k);have c1:=daddC_le x y k;have d1:=dg_lt x k;have e1:=dg_lt y k
    have hs':((dg x k:Nat):Int)+((dg y k:Nat):Int)+((daddC x y k:Nat):Int)=(s:Int):=by omega
    have s0:(0:Int)≤(s:Int):=by omega
    have s1:(s:Int)<18446744073709551616:=by omega
    have hm:=Mul64.maskN s (by omega)
    have hm2:((s%4294967296:Nat):Int)%4294967296=((s%4294967296:Nat):Int):=by omega
    have gV:=nd_get (X+1) (daddS x y k) k (by omega);have HS:Hu (_):=fun _=>hs;clear hs c1 d1 e1;obtain⟨t,ht⟩:=exl (s%4294967296);rw[ht]at hm hm2;have HT:Hu (_):=fun _=>ht;clear ht
    go_wp2_with (first
     | (go_at_call_of 42 (Value.slice p X n);refine(CX.out _ k _ ?_ ?_).mono ?_;rfl;exact grA;rintro e w' ⟨rfl,rfl⟩)
     | (go_at_call 42;refine(CY.out _ k _ ?_ ?_).mono ?_;rfl;exact grA;rintro e w' ⟨rfl,rfl⟩))
    go_roundw
    case rel=>
     refine⟨k+1,by omega,by go_num,?_,?_⟩
     ·exact congrArg (Value.int .u64) (by rw[daddC_succ,HS.out ()];omega)
     ·rw[nd_set_top _ _ k t (by rw[←HT.out ()];exact Nat.mod_lt _ (by decide)) (daddS_lt x y k),daddS_succ,HS.out (),HT.out ()]
    case measure=>simp[intOf];omega
   ·have hkK:k=X:=by omega
    have c1:=daddC_le x y k;have hv:=dadd_all x y k (by rw[hkK];exact HX1.out ()) (by rw[hkK];exact HY1.out ())
    have ki:¬(k:Int)<(X:Int):=by omega
    have hset:=nd_set_top (X+1) (daddS x y k) k (daddC x y k) (by omega) (daddS_lt x y k);rw[hv]at hset;obtain⟨V,hV⟩:=exl (daddS x y k);obtain⟨c,hc⟩:=exl (daddC x y k);rw[hV]at hset ⊢;rw[hc]at hset c1 ⊢;have gV:=nd_get (X+1) V X (by omega);rw[hkK]at hset;have HQ:Hu (_):=fun _=>dadd_lt x y X (HX1.out ()) (HY1.out ())
    have kb:X+1≤100000:=by omega
    go_wp2_with (go_at_call 35;refine(trim_nd _ _ (X+1) (x+y) kb (HQ.out ()) (by simp[go_sem])).mono ?_;rintro e w' ⟨rfl,rfl⟩)
    go_ret
    exact Nm.mk rfl (HQ.out ()) (by simp[go_sem]) (by simp[go_sem]) grA
end
section
theorem dsub_all(x y k:Nat)(hx:x<pq k)(h:y≤x):dsubS x y k=x-y:=by
 unfold dsubS dsubC;rw[Nat.mod_eq_of_lt hx,Nat.mod_eq_of_lt (show y<pq k by omega),if_neg (by omega),Nat.zero_mul,Nat.add_zero]
theorem dsubC_bit(x y k s:Nat)(h:dg x k+4294967296-dg y k-dsubC x y k=s):(1:Int)-(s:Int)/4294967296=((dsubC x y (k+1):Nat):Int):=by
 have h1:=dg_lt x k;rw[dsubC_succ]
 split <;> omega
theorem rsub_any(x y n m:Nat)(p q:Option Addr)(w:World)(hp:Sl w p x)(hq:Sl w q y)(hx:dl x≤50000)(hyx:y≤x):
 Calls prog 29 #[.slice p (dl x) n,.slice q (dl y) m] w (Nm (x-y) w):=by
 have cx:=digits_in w p x n hp;have cy:=digits_in w q y m hq;have lx:=dl_lt x;obtain⟨X,hX⟩:=exl (dl x);obtain⟨Y,hY⟩:=exl (dl y);rw[hX]at cx lx hx ⊢;rw[hY]at cy ⊢;have hmx:∀w,(Instr.makeSlice 29 (.int .i64 (X:Int)) (.int .i64 (X:Int))).run prog w=.ok (.slice (some ⟨w.heap.size,0,none⟩) X X) (w.alloc (.cells (nd X 0) 61)):=fun w=>make_digits X (by omega) w
 have x1:(X:Int)≤50000:=by omega
 have CX:Hid _:=cx;have CY:Hid _:=cy;have HX:Hu (_):=fun _=>lx;have HYX:Hu (_):=fun _=>hyx;clear cx cy hp hq hX hY lx hyx
 go_enter func29,ntmps29
 go_wp2
 clear hmx
 go_loopw [6,7] (fun c i wr=>∃k:Nat,k≤X∧i=.int .i64 (k:Int)∧c=.int .u64 ((dsubC x y k:Nat):Int)∧wr=w.alloc (.cells (nd X (dsubS x y k)) 61)) (fun _ i _=>X-(intOf i).toNat)
 case atStart=>exact⟨0,by omega,rfl,by rw[dsubC_zero];rfl,by rw[dsubS_zero]⟩
 case round=>
  obtain⟨k,hk,rfl,rfl,rfl⟩:=hrel
  by_cases hlt:k<X
  ·have k0:(0:Int)≤(k:Int):=by omega
   have k1:(k:Int)<(X:Int):=by omega
   obtain⟨s,hs⟩:=exl (dg x k+4294967296-dg y k-dsubC x y k);have c1:=dsubC_le x y k;have d1:=dg_lt x k;have e1:=dg_lt y k
   have hs':((dg x k:Nat):Int)+4294967296-((dg y k:Nat):Int)-((dsubC x y k:Nat):Int)=(s:Int):=by omega
   have s0:(0:Int)≤(s:Int):=by omega
   have s1:(s:Int)<8589934592:=by omega
   have hb:=dsubC_bit x y k s hs;have hm:=Mul64.maskN s (by omega)
   have hm2:((s%4294967296:Nat):Int)%4294967296=((s%4294967296:Nat):Int):=by omega
   have gV:=nd_get X (dsubS x y k) k (by omega);have HS:Hu (_):=fun _=>hs;clear hs;obtain⟨t,ht⟩:=exl (s%4294967296);rw[ht]at hm hm2;have HT:Hu (_):=fun _=>ht
   go_wp2_with (first
    | (go_at_call_of 42 (Value.slice p X n);refine(CX.out _ k _ ?_ ?_).mono ?_;rfl;exact grA;rintro e w' ⟨rfl,rfl⟩)
    | (go_at_call 42;refine(CY.out _ k _ ?_ ?_).mono ?_;rfl;exact grA;rintro e w' ⟨rfl,rfl⟩))
   go_roundw
   case rel=>
    refine⟨k+1,by omega,by go_num,rfl,?_⟩;rw[nd_set_top _ _ k t (by rw[←HT.out ()];exact Nat.mod_lt _ (by decide)) (dsubS_lt x y k),dsubS_succ,HS.out (),HT.out ()]
   case measure=>simp[intOf];omega
  ·have hkK:k=X:=by omega
   have hv:=dsub_all x y k (by rw[hkK];exact HX.out ()) (HYX.out ());rw[hv];obtain⟨V,hV⟩:=exl (x-y)
   have HQ:Hu (V<pq X):=fun _=>by rw[←hV];exact Nat.lt_of_le_of_lt (Nat.sub_le _ _) (HX.out ())
   rw[hV];have HV:Hu (_):=fun _=>hV.symm
   have kb:X≤100000:=by omega
   go_wp2_with (go_at_call 35;refine(trim_nd _ _ X V kb (HQ.out ()) (by simp[go_sem])).mono ?_;rintro e w' ⟨rfl,rfl⟩)
   go_ret
   exact Nm.mk (HV.out ()) (HQ.out ()) (by simp[go_sem]) (by simp[go_sem]) grA
end
end
end Go.Proofs.YtghidgcekieljaaGreat