import Derived.Laws.MakeOwn
import Derived.Laws.BytesArg
import Derived.Test.YtonbpnbhjghfbaaXAKu
import Derived.Test.YtonbpnbhjghfbaaXALdS
namespace Go.Proofs.Ytonbpnbhjghfbaa
open Go.RowKit Go.Proofs.Try
set_option maxRecDepth 100000
set_option maxHeartbeats 8000000
section
def byt(a P:Nat):Nat:=a/2^(8*P)%256
theorem byt_lt(a P:Nat):byt a P<256:=Nat.mod_lt _ (by decide)
def xs(n a k:Nat):List Int:=(List.range n).map fun i=>if i<k then((byt a (n-1-i):Nat):Int) else 0
def bx(n a k:Nat):Array Value:=((xs n a k).map (Value.int .u8)).toArray
def bs(n a:Nat):List UInt8:=(List.range n).map fun i=>UInt8.ofNat (byt a (n-1-i))
theorem bx_size(n a k:Nat):(bx n a k).size=n:=by simp[bx,xs]
theorem bx_get(n a k:Nat)(h:k<n):(bx n a k)[k]? = some (.int .u8 0):=by simp[bx,xs,h]
theorem bx_set(n a k:Nat):(bx n a k).setIfInBounds k (.int .u8 ((byt a (n-1-k):Nat):Int))=bx n a (k+1):=by
 apply Array.ext_getElem?
 intro j;rw[Array.getElem?_setIfInBounds]
 by_cases hj:j<n
 ·by_cases hk:k=j
  ·subst hk;simp[bx,xs,hj]
  ·rw[if_neg hk];simp only[bx,xs,List.map_map,List.getElem?_toArray,List.getElem?_map,List.getElem?_range hj,Option.map_some,Function.comp]
   have:(j<k+1)↔(j<k):=by omega
   simp only[this]
 ·have d:(bx n a k)[j]? = none:=Array.getElem?_eq_none (by rw[bx_size];omega);have f:(bx n a (k+1))[j]? = none:=Array.getElem?_eq_none (by rw[bx_size];omega);rw[d,f]
  by_cases hk:k=j
  ·rw[if_pos hk,if_neg (by rw[bx_size];omega)]
  ·rw[if_neg hk]
theorem bx_zero(n a:Nat):madeCells #[.int .u8 0] n=bx n a 0:=by
 apply Array.ext_getElem?
 intro j
 by_cases hj:j<n
 ·simp[madeCells,bx,xs,hj,Nat.mod_one]
 ·rw[Array.getElem?_eq_none (by rw[size_madeCells];omega),Array.getElem?_eq_none (by rw[bx_size];omega)]
theorem bx_noughts(m:Nat):bx m 0 0=bx m 0 m:=by
 unfold bx xs;refine congrArg _ (congrArg _ ?_)
 apply List.map_congr_left
 intro i d;simp[byt]
theorem xs_all(n a:Nat):strOfNums (xs n a n)=⟨(bs n a).toArray⟩:=by
 unfold strOfNums
 have e:(xs n a n).map (fun z=>UInt8.ofNat z.toNat)=bs n a:=by
  apply List.ext_getElem?
  intro j
  by_cases hj:j<n
  ·simp[xs,bs,hj]
  ·rw[List.getElem?_eq_none (by simp[xs];omega),List.getElem?_eq_none (by simp[bs];omega)]
 rw[e]
theorem byt_wd(a q r:Nat)(hr:r<8):((wd a q:Nat):Int)/2^(8*r)%256=((byt a (8*q+r):Nat):Int):=by
 have e:byt a (8*q+r)=wd a q/2^(8*r)%256:=by
  unfold byt wd pw;obtain⟨d,f⟩:∃d,64=8*r+(8+d):=⟨56-8*r,by omega⟩
  have h:(18446744073709551616:Nat)=2^(8*r)*(256*2^d):=by
   rw[show (256:Nat)*2^d=2^(8+d) from by rw[Nat.pow_add],←Nat.pow_add,←f]
  rw[h,Nat.mod_mul_right_div_self,Nat.mod_mul_right_mod,Nat.div_div_eq_div_mul,←Nat.pow_add,show 64*q+8*r=8*(8*q+r) from by omega]
 rw[e,int_pow,←Int.natCast_ediv]
 omega
theorem conv_bytes(n a:Nat)(v:World)(b:Nat)(h:blk v b=bx n a n):
 (convert 52 9 (.slice (some ⟨b,0,none⟩) n n)).run prog v=.ok (.string ⟨(bs n a).toArray⟩) v:=by
 rw[←xs_all];refine run_convert_bytes_arg v 52 5 underlying52 underlying5 b 0 n n (xs n a n) (by simp[xs]) (fun i d=>?_) 9 underlying9;rw[Nat.zero_add,cell_blk,h];simp[bx,xs,d]
theorem make_bytes(n a:Nat)(hn:n≤1000)(v:World):
 (Instr.makeSlice 52 (.int .i64 n) (.int .i64 n)).run prog v=.ok (.slice (some ⟨v.heap.size,0,none⟩) n n) (v.alloc (.cells (bx n a 0) 5)):=by
 have j:(prog.info? 5).map (·.zero)=some (some (.int .u8 0)):=by kernel_rfl
 have f:(prog.info? 5).map (·.size)=some 1:=by kernel_rfl
 have d:(prog.info? 5).map (·.bytes)=some 1:=by kernel_rfl
 obtain⟨i,l⟩:∃i:TypeInfo,prog.info? 5=some i:=by
  cases h:prog.info? 5 with
  | none=>rw[h]at f;cases f
  | some i=>exact⟨i,rfl⟩
 rw[l]at j f d
 replace j:i.zero=some (.int .u8 0):=by simpa using j
 replace f:i.size=1:=by simpa using f
 replace d:i.bytes=1:=by simpa using d
 rw[run_make v 52 5 i (.int .u8 0) underlying52 l j .i64 .i64 (n:Int) (n:Int) (by omega) (by omega) (by rw[d];omega) (by omega),f,Int.toNat_natCast,Nat.mul_one,←bx_zero n a]
 rfl
end
section
theorem bs_length(n a:Nat):(bs n a).length=n:=by simp[bs]
theorem bs_bn(n a:Nat):∀k,k≤n→bn ((bs n a).take k)=a/2^(8*(n-k))%2^(8*k)
 | 0,_=>by simp[bn,Nat.mod_one]
 | k+1,h=>by
  have hk:k<(bs n a).length:=by rw[bs_length];omega
  rw[List.take_succ_eq_append_getElem hk,bn_snoc,bs_bn n a k (by omega)]
  have e:((bs n a)[k]).toNat=byt a (n-1-k):=by
   simp only[bs,List.getElem_map,List.getElem_range];have:=byt_lt a (n-1-k);simp[UInt8.toNat_ofNat']
   omega
  rw[e];obtain⟨d,rfl⟩:∃d,n=k+1+d:=⟨n-(k+1),by omega⟩;unfold byt;rw[show k+1+d-k=d+1 from by omega,show k+1+d-(k+1)=d from by omega,show k+1+d-1-k=d from by omega];rw[show 8*(d+1)=8*d+8 from by omega,Nat.pow_add,←Nat.div_div_eq_div_mul,show 8*(k+1)=8+8*k from by omega,Nat.pow_add,Nat.mod_mul];generalize a/2^(8*d)=z
  show z/256%2^(8*k)*256+z%256=z%256+256*(z/256%2^(8*k))
  omega
theorem bn_bs(n a:Nat)(h:a<2^(8*n)):bn (bs n a)=a:=by
 have:=bs_bn n a n (Nat.le_refl n);rw[List.take_of_length_le (by rw[bs_length];omega),Nat.sub_self,Nat.mul_zero,Nat.pow_zero,Nat.div_one,Nat.mod_eq_of_lt h]at this;exact this
theorem bs_snoc(n X:Nat)(b:UInt8):bs (n+1) (X*256+b.toNat)=bs n X++[b]:=by
 have h:=b.toNat_lt;unfold bs;rw[List.range_succ,List.map_append]
 congr 1
 ·refine List.map_congr_left fun i f=>?_;have f:=List.mem_range.1 f;obtain⟨d,rfl⟩:∃d,n=i+1+d:=⟨n-i-1,by omega⟩;unfold byt;rw[show i+1+d+1-1-i=d+1 from by omega,show i+1+d-1-i=d from by omega,show 8*(d+1)=8+8*d from by omega,Nat.pow_add,←Nat.div_div_eq_div_mul];rw[show (X*256+b.toNat)/2^8=X from by omega]
 ·simp only[List.map_cons,List.map_nil,byt];rw[show n+1-1-n=0 from by omega]
  congr 1
  apply UInt8.toNat.inj
  simp
theorem bs_of:∀(n:Nat) (l:List UInt8),l.length=n→bs n (bn l)=l
 | 0,l,h=>by rw[List.length_eq_zero_iff.1 h];rfl
 | n+1,l,h=>by
  have hl:l≠[]:=by rintro rfl;simp at h
  have e:=(List.dropLast_concat_getLast hl).symm;rw[e,bn_snoc,bs_snoc,bs_of n _ (by simp;omega)]
theorem bn_bd:∀(n:Nat) (l:List UInt8),l.length=n→bn l<2^(8*n)
 | 0,l,h=>by rw[List.length_eq_zero_iff.1 h];decide
 | n+1,l,h=>by
  have hl:l≠[]:=by rintro rfl;simp at h
  have e:=(List.dropLast_concat_getLast hl).symm;have:=bn_bd n l.dropLast (by simp;omega);have d:=(l.getLast hl).toNat_lt;rw[e,bn_snoc,show 8*(n+1)=8*n+8 from by omega,Nat.pow_add]
  omega
end
end Go.Proofs.Ytonbpnbhjghfbaa