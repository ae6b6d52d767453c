import Derived.BigRegion
import Derived.Test.YtonbpnbhjghfbaaXARSub
import Derived.Test.YtonbpnbhjghfbaaXABsB
namespace Go.Proofs.Ytonbpnbhjghfbaa
open Go.RowKit Go.Proofs.Try
set_option maxRecDepth 100000
set_option maxHeartbeats 8000000
section
attribute [local go_sem ↓] uz1
attribute [local go_sem] uz2
section
theorem pow32k(k:Nat)(hk:k≤32):2^(32-k)*2^k=4294967296:=by
 rw[←Nat.pow_add,show 32-k+k=32 by omega]
theorem rbyte_place(b q r:Nat):b*2^(8*(4*q+r))=b*2^(8*r)*pq q:=by
 unfold pq;rw[show 8*(4*q+r)=8*r+32*q from by omega,Nat.pow_add,Nat.mul_assoc]
theorem rbyte_dg(X q r:Nat)(hr:r<4):dg (X*2^(8*(4*q+r+1))) q=(X%2^(32-8*(r+1)))*2^(8*(r+1)):=by
 unfold dg pq;rw[show 8*(4*q+r+1)=8*(r+1)+32*q from by omega,Nat.pow_add,←Nat.mul_assoc,Nat.mul_div_cancel _ (Nat.two_pow_pos _),←pow32k (8*(r+1)) (by omega),Nat.mul_mod_mul_right]
theorem rbyte_lt(X q r b:Nat)(hr:r<4)(hb:b<256):dg (X*2^(8*(4*q+r+1))) q+b*2^(8*r)<4294967296:=by
 have h:=byte_lt b r hb;rw[rbyte_dg X q r hr,←pow32k (8*(r+1)) (by omega)];have d:=Nat.mod_lt X (Nat.two_pow_pos (32-8*(r+1)));have f:(X%2^(32-8*(r+1))+1)*2^(8*(r+1))≤2^(32-8*(r+1))*2^(8*(r+1)):=Nat.mul_le_mul_right _ d;rw[Nat.add_mul]at f
 omega
theorem rbyte_set(N X q r b:Nat)(hr:r<4)(hb:b<256):
 (nd N (X*2^(8*(4*q+r+1)))).setIfInBounds q (Value.int .u32 ((dg (X*2^(8*(4*q+r+1))) q+b*2^(8*r):Nat):Int))=nd N ((X*256+b)*2^(8*(4*q+r))):=by
 rw[nd_dset N _ q _ (rbyte_lt X q r b hr hb),byte_step,rbyte_place];have d:=dparts (X*2^(8*(4*q+r+1))) q;generalize X*2^(8*(4*q+r+1))=V at *;refine congrArg (nd N) ?_;unfold dset;rw[Nat.add_mul];generalize V/pq (q+1)*pq (q+1)=z at *;generalize b*2^(8*r)*pq q=y at *;generalize dg V q*pq q=t at *
 omega
theorem read_round(N X q r b t V:Nat)(hr:r<4)(hb:b<256)(ht:t=8*r)(hV:V=X*2^(8*(4*q+r+1))):
 ∃y o:Nat,IntKind.u32.wrap (b:Int)=b∧IntKind.u32.wrap ((b:Int)*2^t)=(y:Int)∧bits BinOp.or IntKind.u32 ((dg V q:Nat):Int) (y:Int)=o ∧
  (nd N V).setIfInBounds q (Value.int .u32 o)=nd N ((X*256+b)*2^(8*(4*q+r))):=by
 subst ht hV;have d:=byte_lt b r hb
 have f:2^(8*(r+1))≤4294967296:=by
  rw[←pow32k (8*(r+1)) (by omega)];exact Nat.le_mul_of_pos_left _ (Nat.two_pow_pos _)
 refine⟨b*2^(8*r),dg (X*2^(8*(4*q+r+1))) q+b*2^(8*r),?_,?_,?_,rbyte_set N X q r b hr hb⟩
 ·rw[IntKind.wrap_u32];omega
 ·rw[IntKind.wrap_u32,int_pow,←Int.natCast_mul];generalize b*2^(8*r)=y at *
  omega
 ·rw[bits_or32 _ _ (dg_lt _ _) (by omega),rbyte_dg X q r hr,or_add _ _ _ d]
theorem bn_lt:∀(l:List UInt8),bn l<2^(8*l.length):=fun l=>by
 have f:∀n (l:List UInt8),l.length=n→bn l<2^(8*l.length):=by
  intro n
  induction n with
  | zero=>intro l h;rw[List.length_eq_zero_iff.1 h];exact Nat.one_pos
  | succ n ih=>
   intro l h
   have d:l≠[]:=fun e=>by rw[e]at h;cases h
   have e:=List.dropLast_concat_getLast d
   have i:l.dropLast.length=n:=by rw[List.length_dropLast];omega
   have j:=ih l.dropLast i;rw[←e,bn_snoc,List.length_append,i,List.length_singleton,show 8*(n+1)=8*n+8 by omega,Nat.pow_add];rw[i]at j;have v:=(l.getLast d).toNat_lt;have q:(2:Nat)^8=256:=rfl;rw[q]
   omega
 exact f l.length l rfl
theorem read_lt(s:ByteArray)(N:Nat)(hN:s.size/4+1=N):bn s.data.toList<pq N:=by
 refine Nat.lt_of_lt_of_le (bn_lt _) ?_;unfold pq;refine Nat.pow_le_pow_right (by decide) ?_
 have:s.data.toList.length=s.size:=by simp
 omega
theorem rread_to(s:ByteArray)(hs:s.size≤400)(w:World):Calls prog 29 #[.string s] w (Nm (bn s.data.toList) w):=by
 have h:(s.size:Int)≤400:=by omega
 obtain⟨m,I⟩:=exl (s.size/4);obtain⟨N,J⟩:=exl (m+1);have K:Hu (bn s.data.toList<pq N):=fun _=>read_lt s N (by omega)
 have m1:(s.size:Int)/4=(m:Int):=by omega
 have m2:(m:Int)+1=N:=by omega
 have L:Hu (s.size<4*N):=fun _=>by omega
 have n0:(0:Int)≤(s.size:Int):=by omega
 have mb:(m:Int)≤100:=by omega
 have Q:Hu (N≤100000):=fun _=>by omega
 have l:∀w,(Instr.makeSlice 29 (.int .i64 N) (.int .i64 N)).run prog w=.ok (.slice (some ⟨w.heap.size,0,none⟩) N N) (w.alloc (.cells (nd N 0) 56)):=fun w=>make_digits N (by omega) w;clear I J
 go_enter func29,ntmps29
 go_wp2
 clear l
 go_loopw [4] (fun i wr=>∃k X:Nat,k≤s.size∧i=.int .i64 k∧bn (s.data.toList.take k)=X∧∃q,wr=(w.alloc (.cells (nd N (X*2^(8*(s.size-k)))) 56)).drewN q) (fun i _=>s.size-(intOf i).toNat)
 case atStart=>exact⟨0,0,by omega,rfl,rfl,0,by rw[Nat.zero_mul];rfl⟩
 case round=>
  obtain⟨k,X,v,rfl,x,n,rfl⟩:=hrel;have A:Hu (bn (s.data.toList.take k)=X):=fun _=>x;clear x
  by_cases hlt:k<s.size
  ·obtain⟨P,R⟩:∃P,s.size=k+(P+1):=⟨s.size-k-1,by omega⟩;obtain⟨q,r,S,B⟩:∃q r,P=4*q+r∧r<4:=⟨P/4,P%4,by omega,by omega⟩;obtain⟨t,C⟩:∃t,t=8*r:=⟨_,rfl⟩
   have e1:(s.size:Int)-1-(k:Int)=P:=by omega
   have U:(P:Int)/4=q:=by omega
   have W:(P:Int)%4=r:=by omega
   have e4:(r:Int)*8=t:=by omega
   have d2:(P:Int).tdiv 4=(q:Int):=by rw[Int.tdiv_eq_ediv_of_nonneg (by omega)];exact U
   have d3:(P:Int).tmod 4=(r:Int):=by rw[Int.tmod_eq_emod_of_nonneg (by omega)];exact W
   have w2:IntKind.i64.wrap (q:Int)=q:=wiA;have w3:IntKind.i64.wrap (r:Int)=r:=wiA;have w4:IntKind.i64.wrap (t:Int)=t:=wiA
   have t0:(0:Int)≤t:=by omega
   have t1:(t:Int)<32:=by omega
   have q0:(0:Int)≤q:=by omega
   have Y:q<N:=by have:=L.out ();omega
   have q1:(q:Int)<N:=by omega
   have p0:(0:Int)≤P:=by omega
   have k0:(0:Int)≤k:=by omega
   have k1:(k:Int)<(s.size:Int):=by omega
   obtain⟨V,d⟩:∃V,V=X*2^(8*(s.size-k)):=⟨_,rfl⟩;rw[←d];have gV:=nd_get N V q Y
   have f:V=X*2^(8*(4*q+r+1)):=by rw[d,show s.size-k=4*q+r+1 by omega]
   obtain⟨y,o,f1,f2,f3,D⟩:=read_round N X q r s[k].toNat t V B s[k].toNat_lt C f
   have Z:Hu ((nd N V).setIfInBounds q (Value.int .u32 o)=nd N ((X*256+s[k].toNat)*2^(8*(s.size-(k+1))))):=fun _=>by
    rw[D,show s.size-(k+1)=4*q+r by omega]
   clear d f C S B hs v R D
   go_wp2
   go_big_region
   go_wp2
   go_roundw
   case rel=>
    refine⟨k+1,X*256+s[k].toNat,by omega,by go_num,?_,n+1,?_⟩
    ·rw[take_snoc s k hlt,bn_snoc,A.out ()]
    ·rw[Z.out ()]
   case measure=>simp[intOf];omega
  ·have j:Hu (k=s.size):=fun _=>by omega
   obtain⟨V,d⟩:∃V,V=X*2^(8*(s.size-k)):=⟨_,rfl⟩;rw[←d]
   have G:Hu (V=bn s.data.toList):=fun _=>by
    rw[d,j.out (),Nat.sub_self,Nat.mul_zero,Nat.pow_zero,Nat.mul_one,←A.out (),j.out (),List.take_of_length_le (by simp)]
   have H:Hu (V<pq N):=fun _=>by rw[G.out ()];exact K.out ()
   have aa:¬(k:Int)<(s.size:Int):=by omega
   clear d hlt v hs
   go_wp2_with (go_at_call 32;refine(trim_nd _ _ N V (Q.out ()) (H.out ()) (by simp[go_sem])).mono ?_;rintro e w' ⟨rfl,rfl⟩)
   go_ret
   exact Nm.mk (G.out ()) (H.out ()) (by simp[go_sem]) (by simp[go_sem]) grA
theorem rread_any(s:ByteArray)(hs:s.size≤72)(w:World):Calls prog 29 #[.string s] w (Nm (bn s.data.toList) w):=rread_to s (by omega) w
def zs(n a k:Nat):List Int:=(List.range n).map fun i=>if n≤i+k then((byt a (n-1-i):Nat):Int) else 0
def bz(n a k:Nat):Array Value:=((zs n a k).map (Value.int .u8)).toArray
theorem bz_size(n a k:Nat):(bz n a k).size=n:=by simp[bz,zs]
theorem bz_get(n a k j:Nat)(h:j+k+1=n):(bz n a k)[j]? = some (.int .u8 0):=by
 have d:j<n:=by omega
 have f:¬n≤j+k:=by omega
 simp[bz,zs,d,f]
theorem bz_set(n a k j:Nat)(h:j+k+1=n):(bz n a k).setIfInBounds j (.int .u8 ((byt a k:Nat):Int))=bz n a (k+1):=by
 apply Array.ext_getElem?
 intro i;rw[Array.getElem?_setIfInBounds]
 by_cases hi:i<n
 ·by_cases hk:j=i
  ·subst hk
   have d:n≤j+(k+1):=by omega
   have f:n-1-j=k:=by omega
   simp[bz,zs,hi,d,f]
  ·rw[if_neg hk];simp only[bz,zs,List.map_map,List.getElem?_toArray,List.getElem?_map,List.getElem?_range hi,Option.map_some,Function.comp]
   have:(n≤i+(k+1))↔(n≤i+k):=by omega
   simp only[this]
 ·have l:(bz n a k)[i]? = none:=Array.getElem?_eq_none (by rw[bz_size];omega);have q:(bz n a (k+1))[i]? = none:=Array.getElem?_eq_none (by rw[bz_size];omega);rw[l,q]
  by_cases hk:j=i
  ·rw[if_pos hk,if_neg (by rw[bz_size];omega)]
  ·rw[if_neg hk]
theorem bz_zero(n a:Nat):bx n a 0=bz n a 0:=by
 have:xs n a 0=zs n a 0:=by
  refine List.map_congr_left fun i d=>?_
  have:i<n:=by simpa using d
  simp[show ¬n≤i by omega]
 unfold bx bz;rw[this]
theorem bz_all(n a:Nat):bz n a n=bx n a n:=by
 have:xs n a n=zs n a n:=by
  refine List.map_congr_left fun i d=>?_
  have:i<n:=by simpa using d
  simp[this]
 unfold bx bz;rw[this]
theorem byt_dg(a q r:Nat)(hr:r<4):dg a q/2^(8*r)%256=byt a (4*q+r):=by
 unfold byt dg pq;obtain⟨d,f⟩:∃d,32=8*r+(8+d):=⟨24-8*r,by omega⟩
 have h:(4294967296:Nat)=2^(8*r)*(256*2^d):=by
  rw[show (256:Nat)*2^d=2^(8+d) from by rw[Nat.pow_add],←Nat.pow_add,←f]
 rw[h,Nat.mod_mul_right_div_self,Nat.mod_mul_right_mod,Nat.div_div_eq_div_mul,←Nat.pow_add,show 32*q+8*r=8*(4*q+r) from by omega]
theorem and_255(x:Nat)(h:x<18446744073709551616):bits BinOp.and IntKind.u64 (x:Int) 255=((x%256:Nat):Int):=by
 have d:(BitVec.ofInt 64 (x:Int)).toNat=x:=by
  rw[BitVec.ofInt_natCast,BitVec.toNat_ofNat];exact Nat.mod_eq_of_lt (by omega)
 show IntKind.u64.wrap ((BitVec.ofInt 64 (x:Int)&&&BitVec.ofInt 64 255).toNat:Int)=_
 rw[BitVec.toNat_and,d,show (BitVec.ofInt 64 255).toNat=2^8-1 from rfl,Nat.and_two_pow_sub_one_eq_mod,IntKind.wrap_u64]
 omega
theorem bytes_round(a q r t:Nat)(hr:r<4)(ht:t=8*r):∃y b:Nat,((dg a q:Nat):Int)/2^t=(y:Int)∧bits BinOp.and IntKind.u64 (y:Int) 255=(b:Int)∧b=byt a (4*q+r):=by
 subst ht
 refine⟨dg a q/2^(8*r),byt a (4*q+r),?_,?_,rfl⟩
 ·rw[int_pow,←Int.natCast_ediv]
 ·have d:=dg_lt a q;have f:dg a q/2^(8*r)≤dg a q:=Nat.div_le_self _ _;rw[and_255 _ (by omega),byt_dg a q r hr]
theorem rbytes_any(a m n:Nat)(p:Option Addr)(w:World)(hp:Sl w p a)(hx:dl a≤50000)(hn:n≤72)(hb:bl a≤8*n):
 Cg 18 #[.slice p (dl a) m,.int .i64 n] w (.tuple #[.string ⟨(bs n a).toArray⟩,.bool true]):=by
 have cb:=fun w (h:Sl w p a)=>rbits_any a m p w h hx;have f:=digits_in w p a m hp
 have W:(0:Int)≤n:=by omega
 have Y:(n:Int)≤72:=by omega
 obtain⟨B,C⟩:∃B:Nat,bl a=B:=⟨_,rfl⟩;rw[C]at cb;obtain⟨X,D⟩:=exl (dl a);rw[D]at cb f ⊢;have G:Hu (Calls prog 33 #[.slice p X m] w fun e d=>e=.returned (.int .i64 B)∧w=d):=fun _=>(cb w hp).mono fun _ _ ⟨L,P⟩=>⟨L,P.symm⟩;have Q:Hid (∀(i:Int) (j:Nat) (v:World),i=(j:Int)→Gr w v→Calls prog 30 #[.slice p X m,.int .i64 i] v fun e d=>e=.returned (.int .u64 ((dg a j:Nat):Int))∧d=v):=f
 have Z:(B:Int)≤8*(n:Int):=by omega
 have l:∀w,(Instr.makeSlice 52 (.int .i64 n) (.int .i64 n)).run prog w=.ok (.slice (some ⟨w.heap.size,0,none⟩) n n) (w.alloc (.cells (bz n a 0) 5)):=fun w=>by rw[←bz_zero];exact make_bytes n a (by omega) w
 clear cb f C D hp hx hb hn
 go_enter func18,ntmps18
 go_wp2_with (go_at_call 33;refine(G.out ()).mono ?_;rintro e d ⟨rfl,rfl⟩)
 clear l G
 go_loopw [7] (fun i wr=>∃k:Nat,k≤n∧i=.int .i64 k∧wr=w.alloc (.cells (bz n a k) 5)) (fun i _=>n-(intOf i).toNat)
 case atStart=>exact⟨0,by omega,rfl,rfl⟩
 case round=>
  obtain⟨k,R,rfl,rfl⟩:=hrel
  by_cases hlt:k<n
  ·obtain⟨j,x⟩:∃j,j+k+1=n:=⟨n-k-1,by omega⟩;obtain⟨q,r,H,I⟩:∃q r,k=4*q+r∧r<4:=⟨k/4,k%4,by omega,by omega⟩;obtain⟨t,J⟩:∃t,t=8*r:=⟨_,rfl⟩
   have e1:(n:Int)-1-k=j:=by omega
   have e2:(k:Int)/4=q:=by omega
   have e3:(k:Int)%4=r:=by omega
   have e4:(r:Int)*8=t:=by omega
   have t0:(0:Int)≤t:=by omega
   have t1:(t:Int)<32:=by omega
   have j0:(0:Int)≤j:=by omega
   have j1:(j:Int)<n:=by omega
   have k0:(0:Int)≤k:=by omega
   have k1:(k:Int)<n:=by omega
   have q1:(q:Int)≤72:=by omega
   have gx:=bz_get n a k j x;obtain⟨y,b,f1,f2,K⟩:=bytes_round a q r t I J
   have f4:(b:Int)%256=b:=by have:=byt_lt a (4*q+r);omega
   have S:Hu ((bz n a k).setIfInBounds j (.int .u8 b)=bz n a (k+1)):=fun _=>by rw[K,←H,bz_set n a k j x]
   clear J H I x K
   go_wp2_with (go_at_call 30;refine(Q.out _ q _ ?_ ?_).mono ?_;omega;exact grA;rintro e d ⟨rfl,rfl⟩)
   go_roundw
   case rel=>exact⟨k+1,by omega,by go_num,by rw[S.out ()]⟩
   case measure=>simp[intOf];omega
  ·have A:Hu (k=n):=fun _=>by omega
   have U:¬(k:Int)<n:=by omega
   have V:∀(v:World) (b:Nat),blk v b=bz n a k→(convert 52 9 (.slice (some ⟨b,0,none⟩) n n)).run prog v=.ok (.string ⟨(bs n a).toArray⟩) v:=fun v b h=>conv_bytes n a v b (by rw[h,A.out (),bz_all]);clear hlt R
   go_wp2
   go_ret2
   exact⟨rfl,grA⟩
end
end
end Go.Proofs.Ytonbpnbhjghfbaa