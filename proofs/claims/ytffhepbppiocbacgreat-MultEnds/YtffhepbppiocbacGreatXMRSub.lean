import Derived.Shelf.Bits.Mul64
import Derived.Test.YtffhepbppiocbacGreatXMSl
import Derived.Test.YtffhepbppiocbacGreatXMKr
namespace Go.Proofs.YtffhepbppiocbacGreat
open Go.RowKit Go.Proofs.Tryz
set_option maxRecDepth 100000
set_option maxHeartbeats 8000000
section
attribute [local go_sem ↓] uz1
attribute [local go_sem] uz2
section
theorem digits_in(w:World)(p:Option Addr)(x n:Nat)(h:Sl w p x):∀(i:Int) (j:Nat) (v:World),i=(j:Int)→Gr w v→Calls prog 66 #[.slice p (dl x) n,.int .i64 i] v fun e w'=>e=.returned (.int .u64 ((dg x j:Nat):Int))∧w'=v:=fun i j v e g=>by
 subst e;exact digit_any v p x n j (h.gr g)
theorem wd_mod(x n k:Nat)(h:k<n):wd (x%pw n) k=wd x k:=by
 obtain⟨d,rfl⟩:∃d,n=k+1+d:=⟨n-(k+1),by omega⟩;unfold wd;rw[pw_add,pow_succ64,Nat.mul_assoc,Nat.mod_mul_right_div_self,Nat.mod_mul_right_mod]
theorem nw_mod(x n:Nat):nw n (x%pw n)=nw n x:=by
 apply Array.ext_getElem?
 grind [nw_get,wd_mod,nw_size]
theorem or_word(x k:Nat):bits BinOp.or IntKind.u64 ((dg x (2*k):Nat):Int) (IntKind.u64.wrap (((dg x (2*k+1):Nat):Int)*4294967296))=((wd x k:Nat):Int):=by
 have f:=dg_lt x (2*k);have q:=dg_lt x (2*k+1);rw[wd_two];generalize dg x (2*k)=d at *;generalize dg x (2*k+1)=e at *
 have h:IntKind.u64.wrap ((e:Int)*4294967296)=((e*4294967296:Nat):Int):=by rw[IntKind.wrap_u64];omega
 rw[h,bits_or_u64_nat d (e*4294967296) (by omega) (by omega)];have j:=Nat.two_pow_add_eq_or_of_lt (i:=32) f e;rw[Nat.or_comm,show e*4294967296=2^32*e from Nat.mul_comm _ _,←j,Nat.add_comm]
theorem rnat_any(x n:Nat)(p:Option Addr)(w:World)(h:Sl w p x):Cg 35 #[.slice p (dl x) n] w (.agg (nw 9 x)):=by
 have q:=digits_in w p x n h;obtain⟨L,B⟩:=exl (dl x);rw[B]at q ⊢;have A:Hid _:=q
 go_enter func35,ntmps35
 go_wp2
 go_loopw [4] (fun i wr=>∃k:Nat,k≤9∧i=.int .i64 k∧wr=(w.alloc (.cells (nw 9 0) 33)).alloc (.cells (nw 9 (x%pw k)) 33)) (fun i _=>9-(intOf i).toNat)
 case atStart=>exact⟨0,by omega,rfl,by rw[pw_zero,Nat.mod_one]⟩
 case round=>
  obtain⟨k,D,rfl,rfl⟩:=hrel
  by_cases hlt:k<9
  ·have G:(0:Int)≤k:=by omega
   obtain⟨V,d⟩:=exl (x%pw k);rw[d];have f:Hu (_):=fun _=>d
   go_wp2_with (first
    | (go_at_call 66;refine(A.out _ (2*k) _ ?_ ?_).mono ?_;omega;exact grA;rintro e C ⟨rfl,rfl⟩)
    | (go_at_call 66;refine(A.out _ (2*k+1) _ ?_ ?_).mono ?_;omega;exact grA;rintro e C ⟨rfl,rfl⟩))
   go_roundw
   case rel=>
    refine⟨k+1,by omega,by go_num,?_⟩;rw[or_word,nw_set_top 9 V k _ (wd_lt x k) (by rw[←f.out ()];exact Nat.mod_lt _ (pw_pos k)),mod_succ,f.out ()]
   case measure=>simp[intOf];omega
  ·have j:Hu (k=9):=fun _=>by omega
   obtain⟨V,d⟩:=exl (x%pw k)
   have f:Hu (nw 9 V=nw 9 x):=fun _=>by rw[←d,j.out (),nw_mod]
   rw[d]
   go_wp2
   exact bodyPost_ret (v:=.agg (nw 9 V)) (by simp[results,results35,go_sem,nw9_lit]) rfl ⟨by rw[f.out ()],grA⟩
end
section
theorem dg_i(x k:Nat):((dg x k:Nat):Int)%4294967296=((dg x k:Nat):Int):=by have:=dg_lt x k;omega
theorem mask_wd(a k:Nat):bits BinOp.and IntKind.u64 ((wd a k:Nat):Int) 4294967295=((dg a (2*k):Nat):Int):=by
 rw[Mul64.maskN _ (wd_lt a k),dg_even]
theorem half_wd(a k:Nat):((wd a k:Nat):Int)/4294967296=((dg a (2*k+1):Nat):Int):=by
 rw[dg_odd];omega
theorem pq_M:pq 18=M:=pq_two 9
theorem from_any(a:Nat)(ha:a<M)(w:World):Calls prog 19 #[.agg (nw 9 a)] w (Nm a w):=by
 have q:∀w,(Instr.makeSlice 25 (.int .i64 18) (.int .i64 18)).run prog w=.ok (.slice (some ⟨w.heap.size,0,none⟩) 18 18) (w.alloc (.cells (nd 18 0) 71)):=fun w=>make_digits 18 (by decide) w;have B:Hu (a<M):=fun _=>ha;clear ha
 go_enter func19,ntmps19
 go_wp2
 clear q
 go_loopw [4] (fun i wr=>∃k:Nat,k≤9∧i=.int .i64 k∧wr=(w.alloc (.cells (nw 9 a) 33)).alloc (.cells (nd 18 (a%pq (2*k))) 71)) (fun i _=>9-(intOf i).toNat)
 case atStart=>exact⟨0,by omega,rfl,by rw[Nat.mul_zero,pq_zero,Nat.mod_one]⟩
 case round=>
  obtain⟨k,K,rfl,rfl⟩:=hrel
  by_cases hlt:k<9
  ·have L:(0:Int)≤k:=by omega
   have P:(k:Int)<9:=by omega
   have Q:=nw_get 9 a k hlt;have S:=mask_wd a k;have U:=half_wd a k;have W:=dg_i a (2*k);have X:=dg_i a (2*k+1);have D:=nd_next 18 a (2*k);have G:=nd_next 18 a (2*k+1);obtain⟨V,d⟩:=exl (a%pq (2*k));obtain⟨H,f⟩:=exl (a%pq (2*k+1));obtain⟨I,h⟩:=exl (a%pq (2*k+1+1));rw[d,f]at D;rw[f,h]at G;rw[d];have Y:=nd_get 18 V (2*k) (by omega);have J:=nd_get 18 H (2*k+1) (by omega);have j:Hu (I=a%pq (2*(k+1))):=fun _=>h.symm
   go_wp2
   go_roundw
   case rel=>exact⟨k+1,by omega,by go_num,by rw[←j.out ()]⟩
   case measure=>simp[intOf];omega
  ·have x:Hu (k=9):=fun _=>by omega
   obtain⟨V,d⟩:=exl (a%pq (2*k))
   have j:Hu (V=a):=fun _=>by rw[←d,x.out (),pq_M,Nat.mod_eq_of_lt (B.out ())]
   rw[d]
   have A:V<pq 18:=by rw[j.out (),pq_M];exact B.out ()
   have C:Hu (V<pq 18):=fun _=>A
   go_wp2_with (go_at_call 52;refine(trim_nd _ _ 18 V (by decide) (C.out ()) (by simp[go_sem])).mono ?_;rintro e Z ⟨rfl,rfl⟩)
   go_ret
   exact Nm.mk (j.out ()) (C.out ()) (by simp[go_sem]) (by simp[go_sem]) grA
end
section
theorem pq_pow(q r:Nat):(2:Nat)^(32*q+r)=2^r*pq q:=by unfold pq;rw[Nat.pow_add,Nat.mul_comm]
theorem shl_bound(x i q r:Nat):(x%pq i)*2^(32*q+r)<2^r*pq (i+q):=by
 rw[pq_pow,pq_add,Nat.mul_left_comm,Nat.mul_left_comm (2^r),←Nat.mul_assoc];have d:x%pq i<pq i:=Nat.mod_lt _ (pq_pos i);rw[Nat.mul_assoc,Nat.mul_left_comm]
 exact Nat.mul_lt_mul_of_pos_left (by
  rw[Nat.mul_comm,Nat.mul_comm (pq i)]
  exact Nat.mul_lt_mul_of_pos_left d (pq_pos q)) (Nat.two_pow_pos r)
theorem pow32(r:Nat)(hr:r<32):2^r*2^(32-r)=4294967296:=by
 rw[←Nat.pow_add,show r+(32-r)=32 by omega]
theorem shl_dig(V j r:Nat)(hr:r<32)(h:V<2^r*pq j):dg V j<2^r∧V<pq (j+1):=by
 have d:=pow32 r hr;have f:0<2^(32-r):=Nat.two_pow_pos _
 have i:2^r≤4294967296:=by rw[←d];exact Nat.le_mul_of_pos_right _ f
 constructor
 ·unfold dg
  have:V/pq j<2^r:=by rw[Nat.div_lt_iff_lt_mul (pq_pos j)];exact h
  rw[Nat.mod_eq_of_lt (by omega)];exact this
 ·rw[pq_succ,Nat.mul_comm];exact Nat.lt_of_lt_of_le h (Nat.mul_le_mul_right _ i)
theorem shl_or(h X r:Nat)(hr:r<32)(h1:h<2^r):h|||(X*2^r%4294967296)=h+X*2^r%4294967296:=by
 have e:X*2^r%4294967296=2^r*(X%2^(32-r)):=by
  rw[←pow32 r hr,Nat.mul_comm X,Nat.mul_mod_mul_left]
 rw[e,Nat.or_comm,←Nat.two_pow_add_eq_or_of_lt h1,Nat.add_comm]
theorem shl_or_lt(h X r:Nat)(hr:r<32)(h1:h<2^r):h+X*2^r%4294967296<4294967296:=by
 have e:X*2^r%4294967296=2^r*(X%2^(32-r)):=by
  rw[←pow32 r hr,Nat.mul_comm X,Nat.mul_mod_mul_left]
 have d:X%2^(32-r)<2^(32-r):=Nat.mod_lt _ (Nat.two_pow_pos _);have f:2^r*(X%2^(32-r)+1)≤2^r*2^(32-r):=Nat.mul_le_mul_left _ d;rw[Nat.mul_add,Nat.mul_one,pow32 r hr]at f;rw[e]
 omega
theorem shl_set(N V j T:Nat)(hV:V<pq (j+1))(h:dg V j+T%4294967296<4294967296)(hT:T/4294967296<4294967296):
 ((nd N V).setIfInBounds j (.int .u32 ((dg V j+T%4294967296:Nat):Int))).setIfInBounds (j+1) (.int .u32 ((T/4294967296:Nat):Int))=nd N (V+T*pq j):=by
 obtain⟨u,f⟩:=exl (T%4294967296);obtain⟨v,i⟩:=exl (T/4294967296);have q:=Nat.div_add_mod T 4294967296;rw[f]at h;rw[i]at hT;rw[f,i]at q ⊢
 have x:dset V j (dg V j+u)=V+u*pq j:=by
  unfold dset;have A:=dparts V j;rw[Nat.div_eq_of_lt hV,Nat.zero_mul,Nat.add_zero]at A ⊢;rw[Nat.add_mul]
  omega
 rw[nd_dset N V j _ h,x]
 have d:V+u*pq j<pq (j+1):=by
  rw[←x];exact dset_lt V j _ (j+1) hV (by omega) h
 rw[nd_set_top N _ (j+1) _ hT d];refine congrArg (nd N) ?_;rw[pq_succ,Nat.mul_comm (pq j),←Nat.mul_assoc]
 have B:(4294967296*v+u)*pq j=T*pq j:=by rw[q]
 rw[Nat.add_mul]at B;rw[Nat.mul_comm v]
 omega
theorem shl_next(x i q r:Nat):(x%pq i)*2^(32*q+r)+dg x i*2^r*pq (i+q)=(x%pq (i+1))*2^(32*q+r):=by
 rw[dmod_succ,Nat.add_mul,pq_pow,pq_add]
 have e:dg x i*2^r*(pq i*pq q)=dg x i*pq i*(2^r*pq q):=by
  rw[Nat.mul_assoc,Nat.mul_assoc,Nat.mul_left_comm (2^r)]
 rw[e]
theorem bits_or32(a b:Nat)(ha:a<4294967296)(hb:b<4294967296):bits .or .u32 (a:Int) (b:Int)=((a|||b:Nat):Int):=by
 have h:a|||b<2^32:=Nat.or_lt_two_pow (by omega) (by omega)
 have d:(BitVec.ofInt 32 (a:Int)).toNat=a:=by
  rw[BitVec.ofInt_natCast,BitVec.toNat_ofNat];exact Nat.mod_eq_of_lt (by omega)
 have f:(BitVec.ofInt 32 (b:Int)).toNat=b:=by
  rw[BitVec.ofInt_natCast,BitVec.toNat_ofNat];exact Nat.mod_eq_of_lt (by omega)
 show IntKind.u32.wrap ((BitVec.ofInt 32 (a:Int)|||BitVec.ofInt 32 (b:Int)).toNat:Int)=_
 rw[BitVec.toNat_or,d,f,IntKind.wrap_u32]
 omega
theorem shl_round(x j q r N V:Nat)(hr:r<32)(hV:(x%pq j)*2^(32*q+r)=V):
 ∃T u v o V1 V2:Nat,IntKind.u64.wrap ((dg x j:Nat):Int)=((dg x j:Nat):Int)∧((dg x j:Nat):Int)*2^r=(T:Int)∧IntKind.u64.wrap (T:Int)=T ∧
  bits BinOp.and IntKind.u64 (T:Int) 4294967295=(u:Int)∧(u:Int)%4294967296=u∧bits BinOp.or IntKind.u32 ((dg V (j+q):Nat):Int) (u:Int)=o ∧
  (T:Int)/4294967296=v∧(v:Int)%4294967296=v∧(nd N V).setIfInBounds (j+q) (.int .u32 o)=nd N V1∧(nd N V1).setIfInBounds (j+q+1) (.int .u32 v)=nd N V2 ∧
  V2=(x%pq (j+1))*2^(32*q+r):=by
 have H:=dg_lt x j;have f:=shl_bound x j q r;rw[hV]at f;obtain⟨h,A⟩:=shl_dig V (j+q) r hr f;have B:=shl_or (dg V (j+q)) (dg x j) r hr h;have d:=shl_or_lt (dg V (j+q)) (dg x j) r hr h;have i:=shl_next x j q r;rw[hV]at i
 have C:dg x j*2^r<18446744073709551616:=by
  have I:=Nat.mul_le_mul_right (2^r) (show dg x j≤4294967295 by omega)
  have J:2^r≤4294967296:=by rw[←pow32 r hr];exact Nat.le_mul_of_pos_right _ (Nat.two_pow_pos _)
  omega
 have D:=shl_set N V (j+q) (dg x j*2^r) A d (by omega)
 have G:((dg x j:Nat):Int)*2^r=((dg x j*2^r:Nat):Int):=by rw[int_pow,Int.natCast_mul]
 generalize dg x j*2^r=T at *
 refine⟨T,T%4294967296,T/4294967296,dg V (j+q)+T%4294967296,dset V (j+q) (dg V (j+q)+T%4294967296),V+T*pq (j+q),?_,G,?_,Mul64.maskN T C,by omega,?_,by omega,by omega,nd_dset N V (j+q) _ d,?_,i⟩
 ·rw[IntKind.wrap_u64];omega
 ·rw[IntKind.wrap_u64];omega
 ·rw[bits_or32 _ _ (dg_lt _ _) (Nat.mod_lt _ (by decide)),B]
 ·rw[←nd_dset N V (j+q) _ d];exact D
theorem rshl_any(x n k:Nat)(p:Option Addr)(w:World)(hp:Sl w p x)(hx:dl x≤50000)(hk:k≤32000):
 Calls prog 93 #[.slice p (dl x) n,.int .i64 k] w (Nm (x*2^k) w):=by
 have D:=dl_lt x;unfold Sl at hp;obtain⟨X,L⟩:=exl (dl x);rw[L]at D hx hp ⊢;obtain⟨q,r,h,P⟩:∃q r,k=32*q+r∧r<32:=⟨k/32,k%32,by omega,by omega⟩
 have Z:(k:Int)/32=q:=by omega
 have e3:(k:Int)%32=r:=by omega
 have d2:(k:Int).tdiv 32=(q:Int):=by rw[Int.tdiv_eq_ediv_of_nonneg (by omega)];exact Z
 have d3:(k:Int).tmod 32=(r:Int):=by rw[Int.tmod_eq_emod_of_nonneg (by omega)];exact e3
 obtain⟨N,Q⟩:=exl (X+q+1)
 have aa:(X:Int)+q+1=N:=by omega
 have G:∀w,(Instr.makeSlice 25 (.int .i64 N) (.int .i64 N)).run prog w=.ok (.slice (some ⟨w.heap.size,0,none⟩) N N) (w.alloc (.cells (nd N 0) 71)):=fun w=>make_digits N (by omega) w
 have kb:Hu (N≤100000):=fun _=>by omega
 have x1:(X:Int)≤50000:=by omega
 have q1:(q:Int)≤1000:=by omega
 have r0:(0:Int)≤r:=by omega
 have r1:(r:Int)<32:=by omega
 have HP:Hid _:=hp;have HX:Hu (_):=fun _=>D;have H:Hu (_):=fun _=>Q;have I:Hu (_):=fun _=>h;have S:Hu (_):=fun _=>P;clear D L hp hx Q hk h P
 go_enter func93,ntmps93
 go_wp2
 clear G
 go_loopw [6] (fun i wr=>∃j:Nat,j≤X∧i=.int .i64 j∧wr=w.alloc (.cells (nd N ((x%pq j)*2^k)) 71)) (fun i _=>X-(intOf i).toNat)
 case atStart=>exact⟨0,by omega,rfl,by rw[pq_zero,Nat.mod_one,Nat.zero_mul]⟩
 case round=>
  obtain⟨j,hj,rfl,rfl⟩:=hrel
  by_cases hlt:j<X
  ·have j0:(0:Int)≤j:=by omega
   have j1:(j:Int)<X:=by omega
   obtain⟨b,rfl,hb,U⟩:=HP.out j hlt
   have g1:w.cell? ⟨b,j,none⟩=some (.int .u32 ((dg x j:Nat):Int)):=by rw[cell_blk];exact U
   obtain⟨V,d⟩:=exl ((x%pq j)*2^k);rw[d]
   have J:j+q<N:=by have:=H.out ();omega
   have gV:=nd_get N V (j+q) J
   have ji:(j:Int)+q<N:=by omega
   have ab:(j:Int)+q+1<N:=by omega
   have f:=d;rw[I.out ()]at f;obtain⟨T,u,v,o,V1,V2,f1,f2,f3,f4,f5,f6,f7,f8,f9,ac,A⟩:=shl_round x j q r N V (S.out ()) f
   have B:j+q+1<N:=by have:=H.out ();omega
   have ae:=nd_get N V1 (j+q+1) B
   have K:Hu (V2=(x%pq (j+1))*2^k):=fun _=>by rw[I.out ()];exact A
   clear hlt U d f A
   go_wp2
   go_roundw
   case rel=>exact⟨j+1,by omega,by go_num,by rw[K.out ()]⟩
   case measure=>simp[intOf];omega
  ·have C:j=X:=by omega
   obtain⟨V,d⟩:=exl ((x%pq j)*2^k);rw[d]
   have HV:Hu (V=x*2^k):=fun _=>by rw[←d,C,Nat.mod_eq_of_lt (HX.out ())]
   have W:Hu (V<pq N):=fun _=>by
    have Y:=shl_bound x j q r;rw[←I.out (),d,C]at Y;rw[←H.out ()];exact(shl_dig V (X+q) r (S.out ()) Y).2
   go_wp2_with (go_at_call 52;refine(trim_nd _ _ N V (kb.out ()) (W.out ()) (by simp[go_sem])).mono ?_;rintro e w' ⟨rfl,rfl⟩)
   go_ret
   exact Nm.mk (HV.out ()) (W.out ()) (by simp[go_sem]) (by simp[go_sem]) grA
end
section
theorem nd_one(x:Nat)(hx:x<4294967296) : #[Value.int .u32 x]=nd 1 x:=by
 have e:dg x 0=x:=by unfold dg;rw[pq_zero,Nat.div_one,Nat.mod_eq_of_lt hx]
 show _ =#[Value.int .u32 ((dg x 0:Nat):Int)]
 rw[e]
def bslS(t:TypeId)(n:Nat)(p:Array (Nat×Value)):Sem Value:=Instr.buildSlice t n p
theorem bsl_is(n:Nat)(p:Array (Nat×Value)):Instr.buildSlice 25 n p=bslS 25 n p:=rfl
theorem build1'(x:Nat)(w:World):(bslS 25 1 #[(0,.int .u32 x)]).run prog w=.ok (.slice (some ⟨w.heap.size,0,none⟩) 1 1) (w.alloc (.cells #[.int .u32 x] 71)):=by
 kernel_rfl
theorem build1(x:Nat)(hx:x<4294967296)(w:World):(bslS 25 1 #[(0,.int .u32 x)]).run prog w=.ok (.slice (some ⟨w.heap.size,0,none⟩) 1 1) (w.alloc (.cells (nd 1 x) 71)):=by
 rw[build1' x w,nd_one x hx]
def Nm2(x y:Nat)(w:World)(e:Ending)(w':World):Prop:=∃p n p' n',e=.returned (.tuple #[.slice p (dl x) n,.slice p' (dl y) n'])∧Sl w' p x∧Sl w' p' y∧Gr w w'
end
section
theorem dbl_top(x j:Nat)(hx:x<pq (j+1))(h:dg x j≠0):bl x=32*j+bl (dg x j):=by
 have e:x/2^(32*j)=dg x j:=by
  unfold dg
  show x/pq j=_
  rw[Nat.mod_eq_of_lt];rw[pq_succ]at hx;rw[Nat.div_lt_iff_lt_mul (pq_pos j),Nat.mul_comm];exact hx
 rw[←e];refine bl_shift x (32*j) ?_
 grind [Nat.div_eq_of_lt]
theorem rbits_any(x n:Nat)(p:Option Addr)(w:World)(hp:Sl w p x)(hx:dl x≤50000):
 Calls prog 38 #[.slice p (dl x) n] w fun e w'=>e=.returned (.int .i64 ((bl x:Nat):Int))∧w'=w:=by
 obtain hz|⟨j,hj⟩:dl x=0∨∃j,dl x=j+1:=by
  cases dl x with
  | zero=>exact Or.inl rfl
  | succ j=>exact Or.inr ⟨j,rfl⟩
 ·have C:=dl_eq_zero x hz;subst C;rw[hz];clear hp
  go_enter func38,ntmps38
  go_wp2
  go_ret
  exact⟨rfl,rfl⟩
 ·obtain⟨b,rfl,X,I⟩:=hp j (by omega);have f:=dl_lt x;rw[hj]at hx f ⊢
  have h:dg x j≠0:=fun i=>by
   have:=(dl_le x j).2 (dl_top_zero x j f i)
   omega
  have A:=dbl_top x j f h;have G:=dg_lt x j;have d:=(bl_le _ 32).2 G
  have J:w.cell? ⟨b,j,none⟩=some (.int .u32 ((dg x j:Nat):Int)):=by rw[cell_blk];exact I
  have Y:(0:Int)≤j:=by omega
  have Z:(j:Int)<50000:=by omega
  obtain⟨L,P⟩:=exl (j+1);rw[P]
  have e1:(L:Int)-1=j:=by omega
  have e3:((L:Int)==0)=false:=by rw[beq_eq_false_iff_ne];omega
  have e4:(j:Int)<L:=by omega
  obtain⟨D,Q⟩:=exl (dg x j);obtain⟨B,q⟩:=exl (bl x);rw[Q]at A G J d;rw[q]at A ⊢;have S:Hu (_):=fun _=>A;have HL:Hu (_):=fun _=>d
  have U:Hu (j<50000):=fun _=>by omega
  clear A q Q I h f hj d hp hx P
  go_enter func38,ntmps38
  go_wp2
  go_loopw [3,4] (fun k v wr=>∃K V:Nat,k=.int .i64 K∧v=.int .u32 V∧(V:Int)<4294967296∧(K:Int)≤1700000∧Hu (K+bl V=B)∧wr=w) (fun _ v _=>(intOf v).toNat)
  case atStart=>exact⟨32*j,D,by go_num,rfl,by omega,by have:=U.out ();omega,fun _=>(S.out ()).symm,rfl⟩
  case round=>
   obtain⟨K,V,rfl,rfl,hV,hK,H,rfl⟩:=hrel
   by_cases i:V=0
   ·subst i
    have HK:Hu (K=B):=fun _=>by have:=H.out ();rw[bl_zero]at this;omega
    go_wp2
    go_ret
    exact⟨by rw[HK.out ()];rfl,rfl⟩
   ·have v0:(0:Int)<V:=by omega
    have W:Hu (K+1+bl (V/2)=B):=fun _=>by have:=H.out ();rw[bl_half V i]at this;omega
    have HW:Hu (V<4294967296):=fun _=>by omega
    clear hV H i e1 e3 e4 Y Z G X J
    go_wp2
    go_roundw
    case rel=>exact⟨K+1,V/2,by go_num,by go_num,by have:=HW.out ();omega,by have:=W.out ();have:=S.out ();have:=HL.out ();have:=U.out ();omega,W,trivial⟩
    case measure=>simp[intOf];omega
end
section
theorem shr_dig(x i q r:Nat)(hr:r<32):(dg x (i+q)+dg x (i+q+1)*4294967296)/2^r%4294967296=dg (x/2^(32*q+r)) i:=by
 have e:dg x (i+q)+dg x (i+q+1)*4294967296=x/2^(32*(i+q))%2^64:=by
  unfold dg pq;rw[show 32*(i+q+1)=32*(i+q)+32 by omega,Nat.pow_add,←Nat.div_div_eq_div_mul];generalize x/2^(32*(i+q))=y
  omega
 rw[e];unfold dg pq;rw[show (4294967296:Nat)=2^32 from rfl]
 apply Nat.eq_of_testBit_eq
 intro j;rw[Nat.testBit_mod_two_pow,Nat.testBit_mod_two_pow,←Nat.shiftRight_eq_div_pow,←Nat.shiftRight_eq_div_pow,←Nat.shiftRight_eq_div_pow,←Nat.shiftRight_eq_div_pow,Nat.testBit_shiftRight,Nat.testBit_mod_two_pow,Nat.testBit_shiftRight,Nat.testBit_shiftRight,Nat.testBit_shiftRight]
 by_cases hj:j<32
 ·rw[decide_eq_true hj,decide_eq_true (show r+j<64 by omega),Bool.true_and,Bool.true_and,Bool.true_and]
  congr 1
  omega
 ·rw[decide_eq_false hj,Bool.false_and,Bool.false_and]
theorem shr_round(x j q r:Nat)(hr:r<32):∃T S:Nat,bits BinOp.or IntKind.u64 ((dg x (j+q):Nat):Int) (IntKind.u64.wrap (((dg x (j+q+1):Nat):Int)*4294967296))=(T:Int) ∧
 (T:Int)/2^r=(S:Int)∧bits BinOp.and IntKind.u64 (S:Int) 4294967295=((dg (x/2^(32*q+r)) j:Nat):Int):=by
 have f:=dg_lt x (j+q);have C:=dg_lt x (j+q+1);have h:=shr_dig x j q r hr;generalize dg x (j+q)=d at *;generalize dg x (j+q+1)=e at *;have D:(d+e*4294967296)/2^r≤d+e*4294967296:=Nat.div_le_self _ _
 refine⟨d+e*4294967296,(d+e*4294967296)/2^r,?_,?_,?_⟩
 ·have A:IntKind.u64.wrap ((e:Int)*4294967296)=((e*4294967296:Nat):Int):=by rw[IntKind.wrap_u64];omega
  rw[A,bits_or_u64_nat d (e*4294967296) (by omega) (by omega)];have B:=Nat.two_pow_add_eq_or_of_lt (i:=32) f e;rw[Nat.or_comm,show e*4294967296=2^32*e from Nat.mul_comm _ _,←B,Nat.add_comm]
 ·rw[int_pow,←Int.natCast_ediv]
 ·rw[←h];exact Mul64.maskN _ (by omega)
theorem shr_lt(x q r D:Nat)(h:x<pq (D+q)):x/2^(32*q+r)<pq D:=by
 rw[Nat.div_lt_iff_lt_mul (Nat.two_pow_pos _)];refine Nat.lt_of_lt_of_le h ?_;unfold pq;rw[←Nat.pow_add];exact Nat.pow_le_pow_right (by decide) (by omega)
theorem rshr_any(x n k:Nat)(p:Option Addr)(w:World)(hp:Sl w p x)(hx:dl x≤50000)(hk:k≤1000000):
 Calls prog 73 #[.slice p (dl x) n,.int .i64 k] w (Nm (x/2^k) w):=by
 have h:=dl_lt x;have B:=digits_in w p x n hp;obtain⟨X,C⟩:=exl (dl x);rw[C]at h hx B ⊢;obtain⟨q,r,d,D⟩:∃q r,k=32*q+r∧r<32:=⟨k/32,k%32,by omega,by omega⟩
 have Z:(k:Int)/32=q:=by omega
 have e3:(k:Int)%32=r:=by omega
 have d2:(k:Int).tdiv 32=(q:Int):=by rw[Int.tdiv_eq_ediv_of_nonneg (by omega)];exact Z
 have d3:(k:Int).tmod 32=(r:Int):=by rw[Int.tmod_eq_emod_of_nonneg (by omega)];exact e3
 have k0:(0:Int)≤k:=by omega
 have r0:(0:Int)≤r:=by omega
 have r1:(r:Int)<32:=by omega
 by_cases hq:X≤q
 ·have G:(X:Int)≤q:=by omega
  have L:x/2^k=0:=by
   rw[d];have:=shr_lt x q r 0 (Nat.lt_of_lt_of_le h (Nat.pow_le_pow_right (by decide) (by omega)));rw[pq_zero]at this;exact Nat.lt_one_iff.1 this
  have q1:(q:Int)≤1000000:=by omega
  rw[L];clear L B h d hx hk D hp C hq
  go_enter func73,ntmps73
  go_wp2
  go_ret
  exact⟨none,0,rfl,Sl.zero _ _,grA⟩
 ·obtain⟨N,P⟩:∃N,X=N+q:=⟨X-q,by omega⟩
  have aa:(X:Int)-q=N:=by omega
  have G:¬(X:Int)≤q:=by omega
  have H:∀w,(Instr.makeSlice 25 (.int .i64 N) (.int .i64 N)).run prog w=.ok (.slice (some ⟨w.heap.size,0,none⟩) N N) (w.alloc (.cells (nd N 0) 71)):=fun w=>make_digits N (by omega) w;have Q:Hid _:=B
  have kb:Hu (N≤100000):=fun _=>by omega
  have n1:(N:Int)≤50000:=by omega
  have q1:(q:Int)≤50000:=by omega
  have HK:Hu (_):=fun _=>d;have HR:Hu (_):=fun _=>D
  have I:Hu (x/2^k<pq N):=fun _=>by rw[d];exact shr_lt x q r N (by rw[←P];exact h)
  clear B h C hp hx P hk d D hq;obtain⟨Y,J⟩:=exl (x/2^k);rw[J]at I ⊢;have HY:Hu (_):=fun _=>J;clear J
  go_enter func73,ntmps73
  go_wp2
  clear H
  go_loopw [6] (fun i wr=>∃j:Nat,j≤N∧i=.int .i64 j∧wr=w.alloc (.cells (nd N (Y%pq j)) 71)) (fun i _=>N-(intOf i).toNat)
  case atStart=>exact⟨0,by omega,rfl,by rw[pq_zero,Nat.mod_one]⟩
  case round=>
   obtain⟨j,hj,rfl,rfl⟩:=hrel
   by_cases hlt:j<N
   ·have j0:(0:Int)≤j:=by omega
    have j1:(j:Int)<N:=by omega
    obtain⟨T,S,f1,f2,f3⟩:=shr_round x j q r (HR.out ());rw[←HK.out (),HY.out ()]at f3;obtain⟨V,f⟩:=exl (Y%pq j);rw[f];have gV:=nd_get N V j hlt;have f4:=dg_lt Y j
    have HS:Hu ((nd N V).setIfInBounds j (.int .u32 ((dg Y j:Nat):Int))=nd N (Y%pq (j+1))):=fun _=>by
     rw[nd_set_top N V j _ f4 (by rw[←f];exact Nat.mod_lt _ (pq_pos j)),dmod_succ,f]
    go_wp2_with (first
     | (go_at_call 66;refine(Q.out _ (j+q) _ ?_ ?_).mono ?_;omega;exact grA;rintro e U ⟨rfl,rfl⟩)
     | (go_at_call 66;refine(Q.out _ (j+q+1) _ ?_ ?_).mono ?_;omega;exact grA;rintro e U ⟨rfl,rfl⟩))
    go_roundw
    case rel=>exact⟨j+1,by omega,by go_num,by rw[HS.out ()]⟩
    case measure=>simp[intOf];omega
   ·have K:j=N:=by omega
    obtain⟨V,f⟩:=exl (Y%pq j);rw[f]
    have W:Hu (V=Y):=fun _=>by rw[←f,K,Nat.mod_eq_of_lt (I.out ())]
    have A:Hu (V<pq N):=fun _=>by rw[W.out ()];exact I.out ()
    go_wp2_with (go_at_call 52;refine(trim_nd _ _ N V (kb.out ()) (A.out ()) (by simp[go_sem])).mono ?_;rintro e U ⟨rfl,rfl⟩)
    go_ret
    exact Nm.mk (W.out ()) (A.out ()) (by simp[go_sem]) (by simp[go_sem]) grA
end
section
theorem dadd_all(x y k:Nat)(hx:x<pq k)(hy:y<pq k):daddS x y k+daddC x y k*pq k=x+y:=by
 unfold daddS daddC;rw[Nat.mod_eq_of_lt hx,Nat.mod_eq_of_lt hy,Nat.mul_comm,Nat.add_comm];exact Nat.div_add_mod (x+y) (pq k)
theorem dadd_lt(x y k:Nat)(hx:x<pq k)(hy:y<pq k):x+y<pq (k+1):=by
 rw[pq_succ]
 omega
theorem radd_any(x y n m:Nat)(p q:Option Addr)(w:World)(hp:Sl w p x)(hq:Sl w q y)(hx:dl x≤50000)(hy:dl y≤50000):
 Calls prog 48 #[.slice p (dl x) n,.slice q (dl y) m] w (Nm (x+y) w):=by
 have Q:=digits_in w p x n hp;have S:=digits_in w q y m hq;have U:=dl_lt x;have W:=dl_lt y;obtain⟨X,hX⟩:=exl (dl x);obtain⟨Y,hY⟩:=exl (dl y);rw[hX]at Q U hx ⊢;rw[hY]at S W hy ⊢;have ab:∀w,(Instr.makeSlice 25 (.int .i64 ((X:Int)+1)) (.int .i64 ((X:Int)+1))).run prog w=.ok (.slice (some ⟨w.heap.size,0,none⟩) (X+1) (X+1)) (w.alloc (.cells (nd (X+1) 0) 71)):=fun w=>make_digits (X+1) (by omega) w;have ac:∀w,(Instr.makeSlice 25 (.int .i64 ((Y:Int)+1)) (.int .i64 ((Y:Int)+1))).run prog w=.ok (.slice (some ⟨w.heap.size,0,none⟩) (Y+1) (Y+1)) (w.alloc (.cells (nd (Y+1) 0) 71)):=fun w=>make_digits (Y+1) (by omega) w
 have x1:(X:Int)≤50000:=by omega
 have y1:(Y:Int)≤50000:=by omega
 have CX:Hid _:=Q;have CY:Hid _:=S;have HX:Hu (_):=fun _=>U;have HY:Hu (_):=fun _=>W;clear Q S hp hq hX hY U W
 go_enter func48,ntmps48
 go_wp2
 ·have h:Hu (x<pq Y):=fun _=>Nat.lt_of_lt_of_le (HX.out ()) (pq_mono X Y (by omega));have j:=HY
  go_loopw [7,8] (fun c i wr=>∃k:Nat,k≤Y∧i=.int .i64 k∧c=.int .u64 ((daddC x y k:Nat):Int)∧wr=w.alloc (.cells (nd (Y+1) (daddS x y k)) 71)) (fun _ i _=>Y-(intOf i).toNat)
  case atStart=>exact⟨0,by omega,rfl,by rw[daddC_zero];rfl,by rw[daddS_zero]⟩
  case round=>
   obtain⟨k,hk,rfl,rfl,rfl⟩:=hrel
   by_cases hlt:k<Y
   ·have k0:(0:Int)≤k:=by omega
    have k1:(k:Int)<Y:=by omega
    obtain⟨s,D⟩:=exl (dg x k+dg y k+daddC x y k);have A:=daddC_le x y k;have Z:=dg_lt x k;have e1:=dg_lt y k
    have aa:((dg x k:Nat):Int)+((dg y k:Nat):Int)+((daddC x y k:Nat):Int)=(s:Int):=by omega
    have s0:(0:Int)≤s:=by omega
    have s1:(s:Int)<18446744073709551616:=by omega
    have hm:=Mul64.maskN s (by omega)
    have B:((s%4294967296:Nat):Int)%4294967296=((s%4294967296:Nat):Int):=by omega
    have gV:=nd_get (Y+1) (daddS x y k) k (by omega);have G:Hu (_):=fun _=>D;clear D A Z e1;obtain⟨t,C⟩:=exl (s%4294967296);rw[C]at hm B;have H:Hu (_):=fun _=>C;clear C
    go_wp2_with (first
     | (go_at_call_of 66 (Value.slice p X n);refine(CX.out _ k _ ?_ ?_).mono ?_;rfl;exact grA;rintro e I ⟨rfl,rfl⟩)
     | (go_at_call 66;refine(CY.out _ k _ ?_ ?_).mono ?_;rfl;exact grA;rintro e I ⟨rfl,rfl⟩))
    go_roundw
    case rel=>
     refine⟨k+1,by omega,by go_num,?_,?_⟩
     ·exact congrArg (Value.int .u64) (by rw[daddC_succ,G.out ()];omega)
     ·rw[nd_set_top _ _ k t (by rw[←H.out ()];exact Nat.mod_lt _ (by decide)) (daddS_lt x y k),daddS_succ,G.out (),H.out ()]
    case measure=>simp[intOf];omega
   ·have f:k=Y:=by omega
    have A:=daddC_le x y k;have K:=dadd_all x y k (by rw[f];exact h.out ()) (by rw[f];exact j.out ())
    have ki:¬(k:Int)<Y:=by omega
    have d:=nd_set_top (Y+1) (daddS x y k) k (daddC x y k) (by omega) (daddS_lt x y k);rw[K]at d;obtain⟨V,L⟩:=exl (daddS x y k);obtain⟨c,P⟩:=exl (daddC x y k);rw[L]at d ⊢;rw[P]at d A ⊢
    have ae:(c:Int)%4294967296=c:=by omega
    have gV:=nd_get (Y+1) V Y (by omega);rw[f]at d;have J:Hu (_):=fun _=>dadd_lt x y Y (h.out ()) (j.out ())
    have kb:Y+1≤100000:=by omega
    clear K L P hlt hk
    go_wp2_with (go_at_call 52;refine(trim_nd _ _ (Y+1) (x+y) kb (J.out ()) (by simp[go_sem])).mono ?_;rintro e I ⟨rfl,rfl⟩)
    go_ret
    exact Nm.mk rfl (J.out ()) (by simp[go_sem]) (by simp[go_sem]) grA
 ·have h:=HX;have j:Hu (y<pq X):=fun _=>Nat.lt_of_lt_of_le (HY.out ()) (pq_mono Y X (by omega))
  go_loopw [7,8] (fun c i wr=>∃k:Nat,k≤X∧i=.int .i64 k∧c=.int .u64 ((daddC x y k:Nat):Int)∧wr=w.alloc (.cells (nd (X+1) (daddS x y k)) 71)) (fun _ i _=>X-(intOf i).toNat)
  case atStart=>exact⟨0,by omega,rfl,by rw[daddC_zero];rfl,by rw[daddS_zero]⟩
  case round=>
   obtain⟨k,hk,rfl,rfl,rfl⟩:=hrel
   by_cases hlt:k<X
   ·have k0:(0:Int)≤k:=by omega
    have k1:(k:Int)<X:=by omega
    obtain⟨s,D⟩:=exl (dg x k+dg y k+daddC x y k);have A:=daddC_le x y k;have Z:=dg_lt x k;have e1:=dg_lt y k
    have aa:((dg x k:Nat):Int)+((dg y k:Nat):Int)+((daddC x y k:Nat):Int)=(s:Int):=by omega
    have s0:(0:Int)≤s:=by omega
    have s1:(s:Int)<18446744073709551616:=by omega
    have hm:=Mul64.maskN s (by omega)
    have B:((s%4294967296:Nat):Int)%4294967296=((s%4294967296:Nat):Int):=by omega
    have gV:=nd_get (X+1) (daddS x y k) k (by omega);have G:Hu (_):=fun _=>D;clear D A Z e1;obtain⟨t,C⟩:=exl (s%4294967296);rw[C]at hm B;have H:Hu (_):=fun _=>C;clear C
    go_wp2_with (first
     | (go_at_call_of 66 (Value.slice p X n);refine(CX.out _ k _ ?_ ?_).mono ?_;rfl;exact grA;rintro e I ⟨rfl,rfl⟩)
     | (go_at_call 66;refine(CY.out _ k _ ?_ ?_).mono ?_;rfl;exact grA;rintro e I ⟨rfl,rfl⟩))
    go_roundw
    case rel=>
     refine⟨k+1,by omega,by go_num,?_,?_⟩
     ·exact congrArg (Value.int .u64) (by rw[daddC_succ,G.out ()];omega)
     ·rw[nd_set_top _ _ k t (by rw[←H.out ()];exact Nat.mod_lt _ (by decide)) (daddS_lt x y k),daddS_succ,G.out (),H.out ()]
    case measure=>simp[intOf];omega
   ·have f:k=X:=by omega
    have A:=daddC_le x y k;have K:=dadd_all x y k (by rw[f];exact h.out ()) (by rw[f];exact j.out ())
    have ki:¬(k:Int)<X:=by omega
    have d:=nd_set_top (X+1) (daddS x y k) k (daddC x y k) (by omega) (daddS_lt x y k);rw[K]at d;obtain⟨V,L⟩:=exl (daddS x y k);obtain⟨c,P⟩:=exl (daddC x y k);rw[L]at d ⊢;rw[P]at d A ⊢;have gV:=nd_get (X+1) V X (by omega);rw[f]at d;have J:Hu (_):=fun _=>dadd_lt x y X (h.out ()) (j.out ())
    have kb:X+1≤100000:=by omega
    go_wp2_with (go_at_call 52;refine(trim_nd _ _ (X+1) (x+y) kb (J.out ()) (by simp[go_sem])).mono ?_;rintro e I ⟨rfl,rfl⟩)
    go_ret
    exact Nm.mk rfl (J.out ()) (by simp[go_sem]) (by simp[go_sem]) grA
end
section
theorem dsub_all(x y k:Nat)(hx:x<pq k)(h:y≤x):dsubS x y k=x-y:=by
 unfold dsubS dsubC;rw[Nat.mod_eq_of_lt hx,Nat.mod_eq_of_lt (show y<pq k by omega),if_neg (by omega),Nat.zero_mul,Nat.add_zero]
theorem dsubC_bit(x y k s:Nat)(h:dg x k+4294967296-dg y k-dsubC x y k=s):(1:Int)-s/4294967296=((dsubC x y (k+1):Nat):Int):=by
 have d:=dg_lt x k;rw[dsubC_succ]
 split <;> omega
theorem rsub_any(x y n m:Nat)(p q:Option Addr)(w:World)(hp:Sl w p x)(hq:Sl w q y)(hx:dl x≤50000)(hyx:y≤x):
 Calls prog 40 #[.slice p (dl x) n,.slice q (dl y) m] w (Nm (x-y) w):=by
 have d:=digits_in w p x n hp;have f:=digits_in w q y m hq;have h:=dl_lt x;obtain⟨X,H⟩:=exl (dl x);obtain⟨Y,I⟩:=exl (dl y);rw[H]at d h hx ⊢;rw[I]at f ⊢;have j:∀w,(Instr.makeSlice 25 (.int .i64 X) (.int .i64 X)).run prog w=.ok (.slice (some ⟨w.heap.size,0,none⟩) X X) (w.alloc (.cells (nd X 0) 71)):=fun w=>make_digits X (by omega) w
 have x1:(X:Int)≤50000:=by omega
 have S:Hid _:=d;have U:Hid _:=f;have J:Hu (_):=fun _=>h;have A:Hu (_):=fun _=>hyx;clear d f hp hq H I h hyx
 go_enter func40,ntmps40
 go_wp2
 clear j
 go_loopw [6,7] (fun c i wr=>∃k:Nat,k≤X∧i=.int .i64 k∧c=.int .u64 ((dsubC x y k:Nat):Int)∧wr=w.alloc (.cells (nd X (dsubS x y k)) 71)) (fun _ i _=>X-(intOf i).toNat)
 case atStart=>exact⟨0,by omega,rfl,by rw[dsubC_zero];rfl,by rw[dsubS_zero]⟩
 case round=>
  obtain⟨k,hk,rfl,rfl,rfl⟩:=hrel
  by_cases hlt:k<X
  ·have k0:(0:Int)≤k:=by omega
   have k1:(k:Int)<X:=by omega
   obtain⟨s,B⟩:=exl (dg x k+4294967296-dg y k-dsubC x y k);have c1:=dsubC_le x y k;have d1:=dg_lt x k;have e1:=dg_lt y k
   have W:((dg x k:Nat):Int)+4294967296-((dg y k:Nat):Int)-((dsubC x y k:Nat):Int)=(s:Int):=by omega
   have s0:(0:Int)≤s:=by omega
   have s1:(s:Int)<8589934592:=by omega
   have hb:=dsubC_bit x y k s B;have Z:=Mul64.maskN s (by omega)
   have C:((s%4294967296:Nat):Int)%4294967296=((s%4294967296:Nat):Int):=by omega
   have gV:=nd_get X (dsubS x y k) k (by omega);have HS:Hu (_):=fun _=>B;clear B;obtain⟨t,K⟩:=exl (s%4294967296);rw[K]at Z C;have L:Hu (_):=fun _=>K
   go_wp2_with (first
    | (go_at_call_of 66 (Value.slice p X n);refine(S.out _ k _ ?_ ?_).mono ?_;rfl;exact grA;rintro e P ⟨rfl,rfl⟩)
    | (go_at_call 66;refine(U.out _ k _ ?_ ?_).mono ?_;rfl;exact grA;rintro e P ⟨rfl,rfl⟩))
   go_roundw
   case rel=>
    refine⟨k+1,by omega,by go_num,rfl,?_⟩;rw[nd_set_top _ _ k t (by rw[←L.out ()];exact Nat.mod_lt _ (by decide)) (dsubS_lt x y k),dsubS_succ,HS.out (),L.out ()]
   case measure=>simp[intOf];omega
  ·have D:k=X:=by omega
   have hv:=dsub_all x y k (by rw[D];exact J.out ()) (A.out ());rw[hv];obtain⟨V,G⟩:=exl (x-y)
   have Q:Hu (V<pq X):=fun _=>by rw[←G];exact Nat.lt_of_le_of_lt (Nat.sub_le _ _) (J.out ())
   rw[G];have HV:Hu (_):=fun _=>G.symm
   have kb:X≤100000:=by omega
   go_wp2_with (go_at_call 52;refine(trim_nd _ _ X V kb (Q.out ()) (by simp[go_sem])).mono ?_;rintro e P ⟨rfl,rfl⟩)
   go_ret
   exact Nm.mk (HV.out ()) (Q.out ()) (by simp[go_sem]) (by simp[go_sem]) grA
end
end
end Go.Proofs.YtffhepbppiocbacGreat