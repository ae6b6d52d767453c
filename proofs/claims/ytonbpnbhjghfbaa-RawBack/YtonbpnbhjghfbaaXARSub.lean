import Derived.Shelf.Bits.Mul64
import Derived.Test.YtonbpnbhjghfbaaXASl
import Derived.Test.YtonbpnbhjghfbaaXAKr
namespace Go.Proofs.Ytonbpnbhjghfbaa
open Go.RowKit Go.Proofs.Try
set_option maxRecDepth 100000
set_option maxHeartbeats 8000000
section
attribute [local go_sem ↓] uz1
attribute [local go_sem] uz2
section
theorem digits_in(w:World)(p:Option Addr)(x n:Nat)(h:Sl w p x):∀(i:Int) (j:Nat) (v:World),i=(j:Int)→Gr w v→Calls prog 30 #[.slice p (dl x) n,.int .i64 i] v fun e w'=>e=.returned (.int .u64 ((dg x j:Nat):Int))∧w'=v:=fun i j v e g=>by
 subst e;exact digit_any v p x n j (h.gr g)
theorem wd_mod(x n k:Nat)(h:k<n):wd (x%pw n) k=wd x k:=by
 obtain⟨d,rfl⟩:∃d,n=k+1+d:=⟨n-(k+1),by omega⟩;unfold wd;rw[pw_add,pow_succ64,Nat.mul_assoc,Nat.mod_mul_right_div_self,Nat.mod_mul_right_mod]
theorem nw_mod(x n:Nat):nw n (x%pw n)=nw n x:=by
 apply Array.ext_getElem?
 grind [nw_get,wd_mod,nw_size]
theorem or_word(x k:Nat):bits BinOp.or IntKind.u64 ((dg x (2*k):Nat):Int) (IntKind.u64.wrap (((dg x (2*k+1):Nat):Int)*4294967296))=((wd x k:Nat):Int):=by
 have f:=dg_lt x (2*k);have l:=dg_lt x (2*k+1);rw[wd_two];generalize dg x (2*k)=d at *;generalize dg x (2*k+1)=e at *
 have h:IntKind.u64.wrap ((e:Int)*4294967296)=((e*4294967296:Nat):Int):=by rw[IntKind.wrap_u64];omega
 rw[h,bits_or_u64_nat d (e*4294967296) (by omega) (by omega)];have j:=Nat.two_pow_add_eq_or_of_lt (i:=32) f e;rw[Nat.or_comm,show e*4294967296=2^32*e from Nat.mul_comm _ _,←j,Nat.add_comm]
theorem rnat_any(x n:Nat)(p:Option Addr)(w:World)(h:Sl w p x):Cg 14 #[.slice p (dl x) n] w (.agg (nw 9 x)):=by
 have l:=digits_in w p x n h;obtain⟨L,A⟩:=exl (dl x);rw[A]at l ⊢;have q:Hid _:=l
 go_enter func14,ntmps14
 go_wp2
 go_loopw [4] (fun i wr=>∃k:Nat,k≤9∧i=.int .i64 k∧wr=(w.alloc (.cells (nw 9 0) 25)).alloc (.cells (nw 9 (x%pw k)) 25)) (fun i _=>9-(intOf i).toNat)
 case atStart=>exact⟨0,by omega,rfl,by rw[pw_zero,Nat.mod_one]⟩
 case round=>
  obtain⟨k,C,rfl,rfl⟩:=hrel
  by_cases hlt:k<9
  ·have D:(0:Int)≤k:=by omega
   obtain⟨V,d⟩:=exl (x%pw k);rw[d];have f:Hu (_):=fun _=>d
   go_wp2_with (first
    | (go_at_call 30;refine(q.out _ (2*k) _ ?_ ?_).mono ?_;omega;exact grA;rintro e B ⟨rfl,rfl⟩)
    | (go_at_call 30;refine(q.out _ (2*k+1) _ ?_ ?_).mono ?_;omega;exact grA;rintro e B ⟨rfl,rfl⟩))
   go_roundw
   case rel=>
    refine⟨k+1,by omega,by go_num,?_⟩;rw[or_word,nw_set_top 9 V k _ (wd_lt x k) (by rw[←f.out ()];exact Nat.mod_lt _ (pw_pos k)),mod_succ,f.out ()]
   case measure=>simp[intOf];omega
  ·have j:Hu (k=9):=fun _=>by omega
   obtain⟨V,d⟩:=exl (x%pw k)
   have f:Hu (nw 9 V=nw 9 x):=fun _=>by rw[←d,j.out (),nw_mod]
   rw[d]
   go_wp2
   exact bodyPost_ret (v:=.agg (nw 9 V)) (by simp[results,results14,go_sem,nw9_lit]) rfl ⟨by rw[f.out ()],grA⟩
end
section
theorem dg_i(x k:Nat):((dg x k:Nat):Int)%4294967296=((dg x k:Nat):Int):=by have:=dg_lt x k;omega
theorem mask_wd(a k:Nat):bits BinOp.and IntKind.u64 ((wd a k:Nat):Int) 4294967295=((dg a (2*k):Nat):Int):=by
 rw[Mul64.maskN _ (wd_lt a k),dg_even]
theorem half_wd(a k:Nat):((wd a k:Nat):Int)/4294967296=((dg a (2*k+1):Nat):Int):=by
 rw[dg_odd];omega
theorem pq_M:pq 18=M:=pq_two 9
theorem from_any(a:Nat)(ha:a<M)(w:World):Calls prog 16 #[.agg (nw 9 a)] w (Nm a w):=by
 have l:∀w,(Instr.makeSlice 29 (.int .i64 18) (.int .i64 18)).run prog w=.ok (.slice (some ⟨w.heap.size,0,none⟩) 18 18) (w.alloc (.cells (nd 18 0) 56)):=fun w=>make_digits 18 (by decide) w;have x:Hu (a<M):=fun _=>ha;clear ha
 go_enter func16,ntmps16
 go_wp2
 clear l
 go_loopw [4] (fun i wr=>∃k:Nat,k≤9∧i=.int .i64 k∧wr=(w.alloc (.cells (nw 9 a) 25)).alloc (.cells (nd 18 (a%pq (2*k))) 56)) (fun i _=>9-(intOf i).toNat)
 case atStart=>exact⟨0,by omega,rfl,by rw[Nat.mul_zero,pq_zero,Nat.mod_one]⟩
 case round=>
  obtain⟨k,I,rfl,rfl⟩:=hrel
  by_cases hlt:k<9
  ·have J:(0:Int)≤k:=by omega
   have K:(k:Int)<9:=by omega
   have L:=nw_get 9 a k hlt;have P:=mask_wd a k;have Q:=half_wd a k;have R:=dg_i a (2*k);have S:=dg_i a (2*k+1);have B:=nd_next 18 a (2*k);have C:=nd_next 18 a (2*k+1);obtain⟨V,d⟩:=exl (a%pq (2*k));obtain⟨D,f⟩:=exl (a%pq (2*k+1));obtain⟨G,h⟩:=exl (a%pq (2*k+1+1));rw[d,f]at B;rw[f,h]at C;rw[d];have U:=nd_get 18 V (2*k) (by omega);have H:=nd_get 18 D (2*k+1) (by omega);have j:Hu (G=a%pq (2*(k+1))):=fun _=>h.symm
   go_wp2
   go_roundw
   case rel=>exact⟨k+1,by omega,by go_num,by rw[←j.out ()]⟩
   case measure=>simp[intOf];omega
  ·have q:Hu (k=9):=fun _=>by omega
   obtain⟨V,d⟩:=exl (a%pq (2*k))
   have j:Hu (V=a):=fun _=>by rw[←d,q.out (),pq_M,Nat.mod_eq_of_lt (x.out ())]
   rw[d]
   have v:V<pq 18:=by rw[j.out (),pq_M];exact x.out ()
   have A:Hu (V<pq 18):=fun _=>v
   go_wp2_with (go_at_call 32;refine(trim_nd _ _ 18 V (by decide) (A.out ()) (by simp[go_sem])).mono ?_;rintro e W ⟨rfl,rfl⟩)
   go_ret
   exact Nm.mk (j.out ()) (A.out ()) (by simp[go_sem]) (by simp[go_sem]) grA
end
section
theorem pq_pow(q r:Nat):(2:Nat)^(32*q+r)=2^r*pq q:=by unfold pq;rw[Nat.pow_add,Nat.mul_comm]
theorem shl_bound(x i q r:Nat):(x%pq i)*2^(32*q+r)<2^r*pq (i+q):=by
 rw[pq_pow,pq_add,Nat.mul_left_comm,Nat.mul_left_comm (2^r),←Nat.mul_assoc];have d:x%pq i<pq i:=Nat.mod_lt _ (pq_pos i);rw[Nat.mul_assoc,Nat.mul_left_comm]
 exact Nat.mul_lt_mul_of_pos_left (by
  rw[Nat.mul_comm,Nat.mul_comm (pq i)]
  exact Nat.mul_lt_mul_of_pos_left d (pq_pos q)) (Nat.two_pow_pos r)
theorem pow32(r:Nat)(hr:r<32):2^r*2^(32-r)=4294967296:=by
 rw[←Nat.pow_add,show r+(32-r)=32 by omega]
theorem shl_dig(V j r:Nat)(hr:r<32)(h:V<2^r*pq j):dg V j<2^r∧V<pq (j+1):=by
 have d:=pow32 r hr;have f:0<2^(32-r):=Nat.two_pow_pos _
 have i:2^r≤4294967296:=by rw[←d];exact Nat.le_mul_of_pos_right _ f
 constructor
 ·unfold dg
  have:V/pq j<2^r:=by rw[Nat.div_lt_iff_lt_mul (pq_pos j)];exact h
  rw[Nat.mod_eq_of_lt (by omega)];exact this
 ·rw[pq_succ,Nat.mul_comm];exact Nat.lt_of_lt_of_le h (Nat.mul_le_mul_right _ i)
theorem shl_or(h X r:Nat)(hr:r<32)(h1:h<2^r):h|||(X*2^r%4294967296)=h+X*2^r%4294967296:=by
 have e:X*2^r%4294967296=2^r*(X%2^(32-r)):=by
  rw[←pow32 r hr,Nat.mul_comm X,Nat.mul_mod_mul_left]
 rw[e,Nat.or_comm,←Nat.two_pow_add_eq_or_of_lt h1,Nat.add_comm]
theorem shl_or_lt(h X r:Nat)(hr:r<32)(h1:h<2^r):h+X*2^r%4294967296<4294967296:=by
 have e:X*2^r%4294967296=2^r*(X%2^(32-r)):=by
  rw[←pow32 r hr,Nat.mul_comm X,Nat.mul_mod_mul_left]
 have d:X%2^(32-r)<2^(32-r):=Nat.mod_lt _ (Nat.two_pow_pos _);have f:2^r*(X%2^(32-r)+1)≤2^r*2^(32-r):=Nat.mul_le_mul_left _ d;rw[Nat.mul_add,Nat.mul_one,pow32 r hr]at f;rw[e]
 omega
theorem shl_set(N V j T:Nat)(hV:V<pq (j+1))(h:dg V j+T%4294967296<4294967296)(hT:T/4294967296<4294967296):
 ((nd N V).setIfInBounds j (.int .u32 ((dg V j+T%4294967296:Nat):Int))).setIfInBounds (j+1) (.int .u32 ((T/4294967296:Nat):Int))=nd N (V+T*pq j):=by
 obtain⟨u,f⟩:=exl (T%4294967296);obtain⟨v,i⟩:=exl (T/4294967296);have l:=Nat.div_add_mod T 4294967296;rw[f]at h;rw[i]at hT;rw[f,i]at l ⊢
 have q:dset V j (dg V j+u)=V+u*pq j:=by
  unfold dset;have x:=dparts V j;rw[Nat.div_eq_of_lt hV,Nat.zero_mul,Nat.add_zero]at x ⊢;rw[Nat.add_mul]
  omega
 rw[nd_dset N V j _ h,q]
 have d:V+u*pq j<pq (j+1):=by
  rw[←q];exact dset_lt V j _ (j+1) hV (by omega) h
 rw[nd_set_top N _ (j+1) _ hT d];refine congrArg (nd N) ?_;rw[pq_succ,Nat.mul_comm (pq j),←Nat.mul_assoc]
 have A:(4294967296*v+u)*pq j=T*pq j:=by rw[l]
 rw[Nat.add_mul]at A;rw[Nat.mul_comm v]
 omega
theorem shl_next(x i q r:Nat):(x%pq i)*2^(32*q+r)+dg x i*2^r*pq (i+q)=(x%pq (i+1))*2^(32*q+r):=by
 rw[dmod_succ,Nat.add_mul,pq_pow,pq_add]
 have e:dg x i*2^r*(pq i*pq q)=dg x i*pq i*(2^r*pq q):=by
  rw[Nat.mul_assoc,Nat.mul_assoc,Nat.mul_left_comm (2^r)]
 rw[e]
theorem bits_or32(a b:Nat)(ha:a<4294967296)(hb:b<4294967296):bits .or .u32 (a:Int) (b:Int)=((a|||b:Nat):Int):=by
 have h:a|||b<2^32:=Nat.or_lt_two_pow (by omega) (by omega)
 have d:(BitVec.ofInt 32 (a:Int)).toNat=a:=by
  rw[BitVec.ofInt_natCast,BitVec.toNat_ofNat];exact Nat.mod_eq_of_lt (by omega)
 have f:(BitVec.ofInt 32 (b:Int)).toNat=b:=by
  rw[BitVec.ofInt_natCast,BitVec.toNat_ofNat];exact Nat.mod_eq_of_lt (by omega)
 show IntKind.u32.wrap ((BitVec.ofInt 32 (a:Int)|||BitVec.ofInt 32 (b:Int)).toNat:Int)=_
 rw[BitVec.toNat_or,d,f,IntKind.wrap_u32]
 omega
theorem shl_round(x j q r N V:Nat)(hr:r<32)(hV:(x%pq j)*2^(32*q+r)=V):
 ∃T u v o V1 V2:Nat,IntKind.u64.wrap ((dg x j:Nat):Int)=((dg x j:Nat):Int)∧((dg x j:Nat):Int)*2^r=(T:Int)∧IntKind.u64.wrap (T:Int)=T ∧
  bits BinOp.and IntKind.u64 (T:Int) 4294967295=(u:Int)∧(u:Int)%4294967296=u∧bits BinOp.or IntKind.u32 ((dg V (j+q):Nat):Int) (u:Int)=o ∧
  (T:Int)/4294967296=v∧(v:Int)%4294967296=v∧(nd N V).setIfInBounds (j+q) (.int .u32 o)=nd N V1∧(nd N V1).setIfInBounds (j+q+1) (.int .u32 v)=nd N V2 ∧
  V2=(x%pq (j+1))*2^(32*q+r):=by
 have G:=dg_lt x j;have f:=shl_bound x j q r;rw[hV]at f;obtain⟨h,l⟩:=shl_dig V (j+q) r hr f;have A:=shl_or (dg V (j+q)) (dg x j) r hr h;have d:=shl_or_lt (dg V (j+q)) (dg x j) r hr h;have i:=shl_next x j q r;rw[hV]at i
 have B:dg x j*2^r<18446744073709551616:=by
  have H:=Nat.mul_le_mul_right (2^r) (show dg x j≤4294967295 by omega)
  have I:2^r≤4294967296:=by rw[←pow32 r hr];exact Nat.le_mul_of_pos_right _ (Nat.two_pow_pos _)
  omega
 have C:=shl_set N V (j+q) (dg x j*2^r) l d (by omega)
 have D:((dg x j:Nat):Int)*2^r=((dg x j*2^r:Nat):Int):=by rw[int_pow,Int.natCast_mul]
 generalize dg x j*2^r=T at *
 refine⟨T,T%4294967296,T/4294967296,dg V (j+q)+T%4294967296,dset V (j+q) (dg V (j+q)+T%4294967296),V+T*pq (j+q),?_,D,?_,Mul64.maskN T B,by omega,?_,by omega,by omega,nd_dset N V (j+q) _ d,?_,i⟩
 ·rw[IntKind.wrap_u64];omega
 ·rw[IntKind.wrap_u64];omega
 ·rw[bits_or32 _ _ (dg_lt _ _) (Nat.mod_lt _ (by decide)),A]
 ·rw[←nd_dset N V (j+q) _ d];exact C
theorem rshl_any(x n k:Nat)(p:Option Addr)(w:World)(hp:Sl w p x)(hx:dl x≤50000)(hk:k≤32000):
 Calls prog 41 #[.slice p (dl x) n,.int .i64 k] w (Nm (x*2^k) w):=by
 have C:=dl_lt x;unfold Sl at hp;obtain⟨X,K⟩:=exl (dl x);rw[K]at C hx hp ⊢;obtain⟨q,r,h,L⟩:∃q r,k=32*q+r∧r<32:=⟨k/32,k%32,by omega,by omega⟩
 have W:(k:Int)/32=q:=by omega
 have Y:(k:Int)%32=r:=by omega
 have d2:(k:Int).tdiv 32=(q:Int):=by rw[Int.tdiv_eq_ediv_of_nonneg (by omega)];exact W
 have d3:(k:Int).tmod 32=(r:Int):=by rw[Int.tmod_eq_emod_of_nonneg (by omega)];exact Y
 obtain⟨N,P⟩:=exl (X+q+1)
 have Z:(X:Int)+q+1=N:=by omega
 have D:∀w,(Instr.makeSlice 29 (.int .i64 N) (.int .i64 N)).run prog w=.ok (.slice (some ⟨w.heap.size,0,none⟩) N N) (w.alloc (.cells (nd N 0) 56)):=fun w=>make_digits N (by omega) w
 have kb:Hu (N≤100000):=fun _=>by omega
 have x1:(X:Int)≤50000:=by omega
 have q1:(q:Int)≤1000:=by omega
 have r0:(0:Int)≤r:=by omega
 have r1:(r:Int)<32:=by omega
 have HP:Hid _:=hp;have HX:Hu (_):=fun _=>C;have G:Hu (_):=fun _=>P;have H:Hu (_):=fun _=>h;have Q:Hu (_):=fun _=>L;clear C K hp hx P hk h L
 go_enter func41,ntmps41
 go_wp2
 clear D
 go_loopw [6] (fun i wr=>∃j:Nat,j≤X∧i=.int .i64 j∧wr=w.alloc (.cells (nd N ((x%pq j)*2^k)) 56)) (fun i _=>X-(intOf i).toNat)
 case atStart=>exact⟨0,by omega,rfl,by rw[pq_zero,Nat.mod_one,Nat.zero_mul]⟩
 case round=>
  obtain⟨j,hj,rfl,rfl⟩:=hrel
  by_cases hlt:j<X
  ·have j0:(0:Int)≤j:=by omega
   have j1:(j:Int)<X:=by omega
   obtain⟨b,rfl,hb,R⟩:=HP.out j hlt
   have g1:w.cell? ⟨b,j,none⟩=some (.int .u32 ((dg x j:Nat):Int)):=by rw[cell_blk];exact R
   obtain⟨V,d⟩:=exl ((x%pq j)*2^k);rw[d]
   have I:j+q<N:=by have:=G.out ();omega
   have gV:=nd_get N V (j+q) I
   have ji:(j:Int)+q<N:=by omega
   have aa:(j:Int)+q+1<N:=by omega
   have f:=d;rw[H.out ()]at f;obtain⟨T,u,v,o,V1,V2,f1,f2,f3,f4,f5,f6,f7,f8,f9,ab,l⟩:=shl_round x j q r N V (Q.out ()) f
   have A:j+q+1<N:=by have:=G.out ();omega
   have ac:=nd_get N V1 (j+q+1) A
   have J:Hu (V2=(x%pq (j+1))*2^k):=fun _=>by rw[H.out ()];exact l
   clear hlt R d f l
   go_wp2
   go_roundw
   case rel=>exact⟨j+1,by omega,by go_num,by rw[J.out ()]⟩
   case measure=>simp[intOf];omega
  ·have B:j=X:=by omega
   obtain⟨V,d⟩:=exl ((x%pq j)*2^k);rw[d]
   have HV:Hu (V=x*2^k):=fun _=>by rw[←d,B,Nat.mod_eq_of_lt (HX.out ())]
   have S:Hu (V<pq N):=fun _=>by
    have U:=shl_bound x j q r;rw[←H.out (),d,B]at U;rw[←G.out ()];exact(shl_dig V (X+q) r (Q.out ()) U).2
   go_wp2_with (go_at_call 32;refine(trim_nd _ _ N V (kb.out ()) (S.out ()) (by simp[go_sem])).mono ?_;rintro e w' ⟨rfl,rfl⟩)
   go_ret
   exact Nm.mk (HV.out ()) (S.out ()) (by simp[go_sem]) (by simp[go_sem]) grA
end
section
theorem nd_one(x:Nat)(hx:x<4294967296) : #[Value.int .u32 x]=nd 1 x:=by
 have e:dg x 0=x:=by unfold dg;rw[pq_zero,Nat.div_one,Nat.mod_eq_of_lt hx]
 show _ =#[Value.int .u32 ((dg x 0:Nat):Int)]
 rw[e]
def bslS(t:TypeId)(n:Nat)(p:Array (Nat×Value)):Sem Value:=Instr.buildSlice t n p
theorem bsl_is(n:Nat)(p:Array (Nat×Value)):Instr.buildSlice 29 n p=bslS 29 n p:=rfl
theorem build1'(x:Nat)(w:World):(bslS 29 1 #[(0,.int .u32 x)]).run prog w=.ok (.slice (some ⟨w.heap.size,0,none⟩) 1 1) (w.alloc (.cells #[.int .u32 x] 56)):=by
 kernel_rfl
theorem build1(x:Nat)(hx:x<4294967296)(w:World):(bslS 29 1 #[(0,.int .u32 x)]).run prog w=.ok (.slice (some ⟨w.heap.size,0,none⟩) 1 1) (w.alloc (.cells (nd 1 x) 56)):=by
 rw[build1' x w,nd_one x hx]
def Nm2(x y:Nat)(w:World)(e:Ending)(w':World):Prop:=∃p n p' n',e=.returned (.tuple #[.slice p (dl x) n,.slice p' (dl y) n'])∧Sl w' p x∧Sl w' p' y∧Gr w w'
end
section
theorem dbl_top(x j:Nat)(hx:x<pq (j+1))(h:dg x j≠0):bl x=32*j+bl (dg x j):=by
 have e:x/2^(32*j)=dg x j:=by
  unfold dg
  show x/pq j=_
  rw[Nat.mod_eq_of_lt];rw[pq_succ]at hx;rw[Nat.div_lt_iff_lt_mul (pq_pos j),Nat.mul_comm];exact hx
 rw[←e];refine bl_shift x (32*j) ?_
 grind [Nat.div_eq_of_lt]
theorem rbits_any(x n:Nat)(p:Option Addr)(w:World)(hp:Sl w p x)(hx:dl x≤50000):
 Calls prog 33 #[.slice p (dl x) n] w fun e w'=>e=.returned (.int .i64 ((bl x:Nat):Int))∧w'=w:=by
 obtain hz|⟨j,hj⟩:dl x=0∨∃j,dl x=j+1:=by
  cases dl x with
  | zero=>exact Or.inl rfl
  | succ j=>exact Or.inr ⟨j,rfl⟩
 ·have A:=dl_eq_zero x hz;subst A;rw[hz];clear hp
  go_enter func33,ntmps33
  go_wp2
  go_ret
  exact⟨rfl,rfl⟩
 ·obtain⟨b,rfl,U,H⟩:=hp j (by omega);have f:=dl_lt x;rw[hj]at hx f ⊢
  have h:dg x j≠0:=fun i=>by
   have:=(dl_le x j).2 (dl_top_zero x j f i)
   omega
  have q:=dbl_top x j f h;have C:=dg_lt x j;have d:=(bl_le _ 32).2 C
  have I:w.cell? ⟨b,j,none⟩=some (.int .u32 ((dg x j:Nat):Int)):=by rw[cell_blk];exact H
  have W:(0:Int)≤j:=by omega
  have X:(j:Int)<50000:=by omega
  obtain⟨L,J⟩:=exl (j+1);rw[J]
  have Y:(L:Int)-1=j:=by omega
  have Z:((L:Int)==0)=false:=by rw[beq_eq_false_iff_ne];omega
  have e4:(j:Int)<L:=by omega
  obtain⟨D,P⟩:=exl (dg x j);obtain⟨B,l⟩:=exl (bl x);rw[P]at q C I d;rw[l]at q ⊢;have Q:Hu (_):=fun _=>q;have HL:Hu (_):=fun _=>d
  have R:Hu (j<50000):=fun _=>by omega
  clear q l P H h f hj d hp hx J
  go_enter func33,ntmps33
  go_wp2
  go_loopw [3,4] (fun k v wr=>∃K V:Nat,k=.int .i64 K∧v=.int .u32 V∧(V:Int)<4294967296∧(K:Int)≤1700000∧Hu (K+bl V=B)∧wr=w) (fun _ v _=>(intOf v).toNat)
  case atStart=>exact⟨32*j,D,by go_num,rfl,by omega,by have:=R.out ();omega,fun _=>(Q.out ()).symm,rfl⟩
  case round=>
   obtain⟨K,V,rfl,rfl,hV,hK,G,rfl⟩:=hrel
   by_cases i:V=0
   ·subst i
    have HK:Hu (K=B):=fun _=>by have:=G.out ();rw[bl_zero]at this;omega
    go_wp2
    go_ret
    exact⟨by rw[HK.out ()];rfl,rfl⟩
   ·have v0:(0:Int)<V:=by omega
    have S:Hu (K+1+bl (V/2)=B):=fun _=>by have:=G.out ();rw[bl_half V i]at this;omega
    have HW:Hu (V<4294967296):=fun _=>by omega
    clear hV G i Y Z e4 W X C U I
    go_wp2
    go_roundw
    case rel=>exact⟨K+1,V/2,by go_num,by go_num,by have:=HW.out ();omega,by have:=S.out ();have:=Q.out ();have:=HL.out ();have:=R.out ();omega,S,trivial⟩
    case measure=>simp[intOf];omega
end
section
theorem shr_dig(x i q r:Nat)(hr:r<32):(dg x (i+q)+dg x (i+q+1)*4294967296)/2^r%4294967296=dg (x/2^(32*q+r)) i:=by
 have e:dg x (i+q)+dg x (i+q+1)*4294967296=x/2^(32*(i+q))%2^64:=by
  unfold dg pq;rw[show 32*(i+q+1)=32*(i+q)+32 by omega,Nat.pow_add,←Nat.div_div_eq_div_mul];generalize x/2^(32*(i+q))=y
  omega
 rw[e];unfold dg pq;rw[show (4294967296:Nat)=2^32 from rfl]
 apply Nat.eq_of_testBit_eq
 intro j;rw[Nat.testBit_mod_two_pow,Nat.testBit_mod_two_pow,←Nat.shiftRight_eq_div_pow,←Nat.shiftRight_eq_div_pow,←Nat.shiftRight_eq_div_pow,←Nat.shiftRight_eq_div_pow,Nat.testBit_shiftRight,Nat.testBit_mod_two_pow,Nat.testBit_shiftRight,Nat.testBit_shiftRight,Nat.testBit_shiftRight]
 by_cases hj:j<32
 ·rw[decide_eq_true hj,decide_eq_true (show r+j<64 by omega),Bool.true_and,Bool.true_and,Bool.true_and]
  congr 1
  omega
 ·rw[decide_eq_false hj,Bool.false_and,Bool.false_and]
theorem shr_round(x j q r:Nat)(hr:r<32):∃T S:Nat,bits BinOp.or IntKind.u64 ((dg x (j+q):Nat):Int) (IntKind.u64.wrap (((dg x (j+q+1):Nat):Int)*4294967296))=(T:Int) ∧
 (T:Int)/2^r=(S:Int)∧bits BinOp.and IntKind.u64 (S:Int) 4294967295=((dg (x/2^(32*q+r)) j:Nat):Int):=by
 have f:=dg_lt x (j+q);have A:=dg_lt x (j+q+1);have h:=shr_dig x j q r hr;generalize dg x (j+q)=d at *;generalize dg x (j+q+1)=e at *;have B:(d+e*4294967296)/2^r≤d+e*4294967296:=Nat.div_le_self _ _
 refine⟨d+e*4294967296,(d+e*4294967296)/2^r,?_,?_,?_⟩
 ·have l:IntKind.u64.wrap ((e:Int)*4294967296)=((e*4294967296:Nat):Int):=by rw[IntKind.wrap_u64];omega
  rw[l,bits_or_u64_nat d (e*4294967296) (by omega) (by omega)];have v:=Nat.two_pow_add_eq_or_of_lt (i:=32) f e;rw[Nat.or_comm,show e*4294967296=2^32*e from Nat.mul_comm _ _,←v,Nat.add_comm]
 ·rw[int_pow,←Int.natCast_ediv]
 ·rw[←h];exact Mul64.maskN _ (by omega)
theorem shr_lt(x q r D:Nat)(h:x<pq (D+q)):x/2^(32*q+r)<pq D:=by
 rw[Nat.div_lt_iff_lt_mul (Nat.two_pow_pos _)];refine Nat.lt_of_lt_of_le h ?_;unfold pq;rw[←Nat.pow_add];exact Nat.pow_le_pow_right (by decide) (by omega)
theorem rshr_any(x n k:Nat)(p:Option Addr)(w:World)(hp:Sl w p x)(hx:dl x≤50000)(hk:k≤1000000):
 Calls prog 35 #[.slice p (dl x) n,.int .i64 k] w (Nm (x/2^k) w):=by
 have h:=dl_lt x;have v:=digits_in w p x n hp;obtain⟨X,A⟩:=exl (dl x);rw[A]at h hx v ⊢;obtain⟨q,r,d,B⟩:∃q r,k=32*q+r∧r<32:=⟨k/32,k%32,by omega,by omega⟩
 have R:(k:Int)/32=q:=by omega
 have U:(k:Int)%32=r:=by omega
 have d2:(k:Int).tdiv 32=(q:Int):=by rw[Int.tdiv_eq_ediv_of_nonneg (by omega)];exact R
 have d3:(k:Int).tmod 32=(r:Int):=by rw[Int.tmod_eq_emod_of_nonneg (by omega)];exact U
 have k0:(0:Int)≤k:=by omega
 have r0:(0:Int)≤r:=by omega
 have r1:(r:Int)<32:=by omega
 by_cases hq:X≤q
 ·have C:(X:Int)≤q:=by omega
  have J:x/2^k=0:=by
   rw[d];have:=shr_lt x q r 0 (Nat.lt_of_lt_of_le h (Nat.pow_le_pow_right (by decide) (by omega)));rw[pq_zero]at this;exact Nat.lt_one_iff.1 this
  have W:(q:Int)≤1000000:=by omega
  rw[J];clear J v h d hx hk B hp A hq
  go_enter func35,ntmps35
  go_wp2
  go_ret
  exact⟨none,0,rfl,Sl.zero _ _,grA⟩
 ·obtain⟨N,K⟩:∃N,X=N+q:=⟨X-q,by omega⟩
  have Z:(X:Int)-q=N:=by omega
  have C:¬(X:Int)≤q:=by omega
  have D:∀w,(Instr.makeSlice 29 (.int .i64 N) (.int .i64 N)).run prog w=.ok (.slice (some ⟨w.heap.size,0,none⟩) N N) (w.alloc (.cells (nd N 0) 56)):=fun w=>make_digits N (by omega) w;have L:Hid _:=v
  have kb:Hu (N≤100000):=fun _=>by omega
  have n1:(N:Int)≤50000:=by omega
  have W:(q:Int)≤50000:=by omega
  have HK:Hu (_):=fun _=>d;have HR:Hu (_):=fun _=>B
  have G:Hu (x/2^k<pq N):=fun _=>by rw[d];exact shr_lt x q r N (by rw[←K];exact h)
  clear v h A hp hx K hk d B hq;obtain⟨Y,H⟩:=exl (x/2^k);rw[H]at G ⊢;have HY:Hu (_):=fun _=>H;clear H
  go_enter func35,ntmps35
  go_wp2
  clear D
  go_loopw [6] (fun i wr=>∃j:Nat,j≤N∧i=.int .i64 j∧wr=w.alloc (.cells (nd N (Y%pq j)) 56)) (fun i _=>N-(intOf i).toNat)
  case atStart=>exact⟨0,by omega,rfl,by rw[pq_zero,Nat.mod_one]⟩
  case round=>
   obtain⟨j,hj,rfl,rfl⟩:=hrel
   by_cases hlt:j<N
   ·have j0:(0:Int)≤j:=by omega
    have j1:(j:Int)<N:=by omega
    obtain⟨T,S,f1,f2,f3⟩:=shr_round x j q r (HR.out ());rw[←HK.out (),HY.out ()]at f3;obtain⟨V,f⟩:=exl (Y%pq j);rw[f];have gV:=nd_get N V j hlt;have f4:=dg_lt Y j
    have HS:Hu ((nd N V).setIfInBounds j (.int .u32 ((dg Y j:Nat):Int))=nd N (Y%pq (j+1))):=fun _=>by
     rw[nd_set_top N V j _ f4 (by rw[←f];exact Nat.mod_lt _ (pq_pos j)),dmod_succ,f]
    go_wp2_with (first
     | (go_at_call 30;refine(L.out _ (j+q) _ ?_ ?_).mono ?_;omega;exact grA;rintro e P ⟨rfl,rfl⟩)
     | (go_at_call 30;refine(L.out _ (j+q+1) _ ?_ ?_).mono ?_;omega;exact grA;rintro e P ⟨rfl,rfl⟩))
    go_roundw
    case rel=>exact⟨j+1,by omega,by go_num,by rw[HS.out ()]⟩
    case measure=>simp[intOf];omega
   ·have I:j=N:=by omega
    obtain⟨V,f⟩:=exl (Y%pq j);rw[f]
    have Q:Hu (V=Y):=fun _=>by rw[←f,I,Nat.mod_eq_of_lt (G.out ())]
    have l:Hu (V<pq N):=fun _=>by rw[Q.out ()];exact G.out ()
    go_wp2_with (go_at_call 32;refine(trim_nd _ _ N V (kb.out ()) (l.out ()) (by simp[go_sem])).mono ?_;rintro e P ⟨rfl,rfl⟩)
    go_ret
    exact Nm.mk (Q.out ()) (l.out ()) (by simp[go_sem]) (by simp[go_sem]) grA
end
section
theorem dsub_all(x y k:Nat)(hx:x<pq k)(h:y≤x):dsubS x y k=x-y:=by
 unfold dsubS dsubC;rw[Nat.mod_eq_of_lt hx,Nat.mod_eq_of_lt (show y<pq k by omega),if_neg (by omega),Nat.zero_mul,Nat.add_zero]
theorem dsubC_bit(x y k s:Nat)(h:dg x k+4294967296-dg y k-dsubC x y k=s):(1:Int)-s/4294967296=((dsubC x y (k+1):Nat):Int):=by
 have d:=dg_lt x k;rw[dsubC_succ]
 split <;> omega
theorem rsub_any(x y n m:Nat)(p q:Option Addr)(w:World)(hp:Sl w p x)(hq:Sl w q y)(hx:dl x≤50000)(hyx:y≤x):
 Calls prog 22 #[.slice p (dl x) n,.slice q (dl y) m] w (Nm (x-y) w):=by
 have d:=digits_in w p x n hp;have f:=digits_in w q y m hq;have h:=dl_lt x;obtain⟨X,D⟩:=exl (dl x);obtain⟨Y,G⟩:=exl (dl y);rw[D]at d h hx ⊢;rw[G]at f ⊢;have j:∀w,(Instr.makeSlice 29 (.int .i64 X) (.int .i64 X)).run prog w=.ok (.slice (some ⟨w.heap.size,0,none⟩) X X) (w.alloc (.cells (nd X 0) 56)):=fun w=>make_digits X (by omega) w
 have x1:(X:Int)≤50000:=by omega
 have P:Hid _:=d;have Q:Hid _:=f;have H:Hu (_):=fun _=>h;have l:Hu (_):=fun _=>hyx;clear d f hp hq D G h hyx
 go_enter func22,ntmps22
 go_wp2
 clear j
 go_loopw [6,7] (fun c i wr=>∃k:Nat,k≤X∧i=.int .i64 k∧c=.int .u64 ((dsubC x y k:Nat):Int)∧wr=w.alloc (.cells (nd X (dsubS x y k)) 56)) (fun _ i _=>X-(intOf i).toNat)
 case atStart=>exact⟨0,by omega,rfl,by rw[dsubC_zero];rfl,by rw[dsubS_zero]⟩
 case round=>
  obtain⟨k,hk,rfl,rfl,rfl⟩:=hrel
  by_cases hlt:k<X
  ·have k0:(0:Int)≤k:=by omega
   have k1:(k:Int)<X:=by omega
   obtain⟨s,v⟩:=exl (dg x k+4294967296-dg y k-dsubC x y k);have c1:=dsubC_le x y k;have d1:=dg_lt x k;have e1:=dg_lt y k
   have R:((dg x k:Nat):Int)+4294967296-((dg y k:Nat):Int)-((dsubC x y k:Nat):Int)=(s:Int):=by omega
   have s0:(0:Int)≤s:=by omega
   have s1:(s:Int)<8589934592:=by omega
   have hb:=dsubC_bit x y k s v;have S:=Mul64.maskN s (by omega)
   have A:((s%4294967296:Nat):Int)%4294967296=((s%4294967296:Nat):Int):=by omega
   have gV:=nd_get X (dsubS x y k) k (by omega);have U:Hu (_):=fun _=>v;clear v;obtain⟨t,I⟩:=exl (s%4294967296);rw[I]at S A;have J:Hu (_):=fun _=>I
   go_wp2_with (first
    | (go_at_call_of 30 (Value.slice p X n);refine(P.out _ k _ ?_ ?_).mono ?_;rfl;exact grA;rintro e K ⟨rfl,rfl⟩)
    | (go_at_call 30;refine(Q.out _ k _ ?_ ?_).mono ?_;rfl;exact grA;rintro e K ⟨rfl,rfl⟩))
   go_roundw
   case rel=>
    refine⟨k+1,by omega,by go_num,rfl,?_⟩;rw[nd_set_top _ _ k t (by rw[←J.out ()];exact Nat.mod_lt _ (by decide)) (dsubS_lt x y k),dsubS_succ,U.out (),J.out ()]
   case measure=>simp[intOf];omega
  ·have B:k=X:=by omega
   have W:=dsub_all x y k (by rw[B];exact H.out ()) (l.out ());rw[W];obtain⟨V,C⟩:=exl (x-y)
   have L:Hu (V<pq X):=fun _=>by rw[←C];exact Nat.lt_of_le_of_lt (Nat.sub_le _ _) (H.out ())
   rw[C];have Z:Hu (_):=fun _=>C.symm
   have kb:X≤100000:=by omega
   go_wp2_with (go_at_call 32;refine(trim_nd _ _ X V kb (L.out ()) (by simp[go_sem])).mono ?_;rintro e K ⟨rfl,rfl⟩)
   go_ret
   exact Nm.mk (Z.out ()) (L.out ()) (by simp[go_sem]) (by simp[go_sem]) grA
end
end
end Go.Proofs.Ytonbpnbhjghfbaa