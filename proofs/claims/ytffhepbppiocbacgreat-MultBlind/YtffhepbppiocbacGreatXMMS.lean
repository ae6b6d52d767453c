import Derived.Laws.Bits64
import Derived.Laws.Unary
import Derived.Test.YtffhepbppiocbacGreatXMEq
namespace Go.Proofs.YtffhepbppiocbacGreat
open Go.RowKit Go.Proofs.Tryz
set_option maxRecDepth 100000
set_option maxHeartbeats 8000000
section
def msk(p:Bool):Nat:=if p then 18446744073709551615 else 0
theorem msk_lt(p:Bool):msk p<18446744073709551616:=by cases p <;> decide
def sel(m x y:Nat):Nat:=y^^^(m&&&(x^^^y))
def not64(m:Nat):Nat:=18446744073709551615-m
theorem xor_lt{a b:Nat}(ha:a<18446744073709551616)(hb:b<18446744073709551616):a^^^b<18446744073709551616:=Nat.xor_lt_two_pow (n:=64) (by omega) (by omega)
theorem or_lt{a b:Nat}(ha:a<18446744073709551616)(hb:b<18446744073709551616):a|||b<18446744073709551616:=Nat.or_lt_two_pow (n:=64) (by omega) (by omega)
theorem and_lt(a:Nat){b:Nat}(hb:b<18446744073709551616):a&&&b<18446744073709551616:=Nat.and_lt_two_pow (n:=64) a (by omega)
theorem sel_lt(m:Nat){x y:Nat}(hx:x<18446744073709551616)(hy:y<18446744073709551616):sel m x y<18446744073709551616:=xor_lt hy (and_lt m (xor_lt hx hy))
theorem not64_testBit(m i:Nat)(h:m<18446744073709551616):(not64 m).testBit i=(decide (i<64) && !m.testBit i):=by
 have:=Nat.testBit_two_pow_sub_succ (n:=64) (by omega) i
 grind [not64]
theorem bit_past{x i:Nat}(hx:x<18446744073709551616)(hi:¬i<64):x.testBit i=false:=
 Nat.testBit_lt_two_pow (Nat.lt_of_lt_of_le (show x<2^64 by omega) (Nat.pow_le_pow_right (by decide) (by omega)))
theorem neg_u64(x:Nat)(hx:x<18446744073709551616):IntKind.u64.wrap (-(x:Int))=(((18446744073709551616-x)%18446744073709551616:Nat):Int):=by rw[IntKind.wrap_u64];omega
theorem max_xor(v:Nat)(hv:v<18446744073709551616):18446744073709551615^^^v=not64 v:=by
 apply Nat.eq_of_testBit_eq;intro i
 rw[Nat.testBit_xor,not64_testBit v i hv,show (18446744073709551615:Nat)=2^64-1 from rfl,Nat.testBit_two_pow_sub_one]
 by_cases hi:i<64
 ·simp[hi]
 ·simp[hi,bit_past hv hi]
theorem not_u64(v:Nat)(hv:v<18446744073709551616):bits .xor .u64 IntKind.u64.max (v:Int)=((not64 v:Nat):Int):=by
 have h:=bits_xor_u64_nat 18446744073709551615 v (by decide) hv;rw[max_xor v hv]at h;exact h
theorem zero_val(x:Nat)(hx:x<18446744073709551616):IntKind.u64.wrap (-(bits .xor .u64 IntKind.u64.max (bits .or .u64 (x:Int) (IntKind.u64.wrap (-(x:Int))))/9223372036854775808))=((msk (decide (x=0)):Nat):Int):=by
 have d:(18446744073709551616-x)%18446744073709551616<18446744073709551616:=Nat.mod_lt _ (by decide);rw[neg_u64 x hx,bits_or_u64_nat _ _ hx d,not_u64 _ (or_lt hx d)]
 have f:x≤x|||(18446744073709551616-x)%18446744073709551616:=Nat.left_le_or
 have i:(18446744073709551616-x)%18446744073709551616≤x|||(18446744073709551616-x)%18446744073709551616:=Nat.right_le_or
 by_cases h:x=0
 ·subst h;decide
 ·have j:(18446744073709551616-x)%18446744073709551616=18446744073709551616-x:=Nat.mod_eq_of_lt (by omega);have q:=or_lt hx d;rw[j]at i f q ⊢;rw[IntKind.wrap_u64,decide_eq_false h]
  have A:((not64 (x|||(18446744073709551616-x)):Nat):Int)/9223372036854775808=0:=by unfold not64;omega
  rw[A];rfl
theorem between_val(m x y:Nat)(hm:m<18446744073709551616)(hx:x<18446744073709551616)(hy:y<18446744073709551616):bits .xor .u64 (y:Int) (bits .and .u64 (m:Int) (bits .xor .u64 (x:Int) (y:Int)))=((sel m x y:Nat):Int):=by
 rw[bits_xor_u64_nat _ _ hx hy,bits_and_u64_nat _ _ hm (xor_lt hx hy),bits_xor_u64_nat _ _ hy (and_lt m (xor_lt hx hy))];rfl
def ofw(f:Nat→Nat):Nat→Nat
 | 0=>0
 | k+1=>ofw f k+f k*pw k
theorem ofw_lt(f:Nat→Nat)(hf:∀i,f i<18446744073709551616):∀k,ofw f k<pw k
 | 0=>pw_pos 0
 | k+1=>by
  have ih:=ofw_lt f hf k;rw[ofw,pow_succ64];have:f k*pw k≤18446744073709551615*pw k:=Nat.mul_le_mul_right _ (by have:=hf k;omega)
  omega
theorem ofw_set(f:Nat→Nat)(hf:∀i,f i<18446744073709551616)(n k:Nat):(nw n (ofw f k)).setIfInBounds k (Value.int .u64 ((f k:Nat):Int))=nw n (ofw f (k+1)):=by
 rw[nw_set_top n (ofw f k) k (f k) (hf k) (ofw_lt f hf k)];rfl
theorem ofw_wd(a:Nat):∀k,ofw (fun i=>wd a i) k=a%pw k
 | 0=>by rw[pw_zero,Nat.mod_one];rfl
 | k+1=>by rw[ofw,ofw_wd a k,mod_succ]
theorem ofw_congr{f g:Nat→Nat}(h:∀i,f i=g i)(k:Nat):ofw f k=ofw g k:=by
 have:f=g:=funext h;rw[this]
theorem ofw_of(f:Nat→Nat)(a:Nat)(ha:a<M)(h:∀i,f i=wd a i):ofw f 9=a:=by
 rw[ofw_congr h,ofw_wd];exact Nat.mod_eq_of_lt ha
def selN(m a b:Nat):Nat:=ofw (fun i=>sel m (wd a i) (wd b i)) 9
theorem selF_lt(m a b:Nat):∀i,(fun i=>sel m (wd a i) (wd b i)) i<18446744073709551616:=fun i=>sel_lt m (wd_lt a i) (wd_lt b i)
end
section
theorem zero_any(x:Nat)(hx:x<18446744073709551616)(w:World):
 Calls prog 96 #[.int .u64 x] w fun e w'=>e=.returned (.int .u64 ((msk (decide (x=0)):Nat):Int))∧w'=w:=by
 rw[←zero_val x hx]
 go_enter func96,ntmps96
 go_wp2
 go_ret
 exact⟨rfl,rfl⟩
theorem xor_zero{a b:Nat}:decide (a^^^b=0)=decide (a=b):=by
 rw[decide_eq_decide]
 constructor
 ·intro h
  apply Nat.eq_of_testBit_eq;intro i
  have:(a^^^b).testBit i=false:=by rw[h];exact Nat.zero_testBit i
  rw[Nat.testBit_xor]at this
  cases ha:a.testBit i <;> cases hb:b.testBit i <;> simp_all
 grind
theorem equal_any(a b:Nat)(ha:a<18446744073709551616)(hb:b<18446744073709551616)(w:World):
 Calls prog 80 #[.int .u64 a,.int .u64 b] w fun e w'=>e=.returned (.int .u64 ((msk (decide (a=b)):Nat):Int))∧w'=w:=by
 have f:=xor_lt ha hb;have d:=fun w=>zero_any (a^^^b) f w;rw[xor_zero,←bits_xor_u64_nat a b ha hb]at d
 go_enter func80,ntmps80
 go_wp2_with (go_at_call 96;refine(d _).mono ?_;rintro e w' ⟨rfl,rfl⟩)
 go_ret
 exact⟨rfl,rfl⟩
theorem between_any(m x y:Nat)(hm:m<18446744073709551616)(hx:x<18446744073709551616)(hy:y<18446744073709551616)(w:World):
 Calls prog 117 #[.int .u64 m,.int .u64 x,.int .u64 y] w fun e w'=>e=.returned (.int .u64 ((sel m x y:Nat):Int))∧w'=w:=by
 rw[←between_val m x y hm hx hy]
 go_enter func117,ntmps117
 go_wp2
 go_ret
 exact⟨rfl,rfl⟩
end
section
attribute [local go_sem ↓] uz1
attribute [local go_sem] uz2
section
theorem each_any(m a b:Nat)(hm:m<18446744073709551616)(w:World):
 Cg 116 #[.func (.func 117) #[.int .u64 m] #[],.agg (nw 9 a),.agg (nw 9 b)] w (.agg (nw 9 (selN m a b))):=by
 have h:=selF_lt m a b
 go_enter func116,ntmps116
 go_wp2
 go_loopw [9] (fun i wr=>∃k n:Nat,k≤9∧i=.int .i64 k∧wr=(((((w.alloc (.cells (nw 9 a) 33)).alloc (.cells (nw 9 b) 33)).alloc (.cells (nw 9 0) 33)).alloc (.cells (nw 9 (ofw (fun i=>sel m (wd a i) (wd b i)) k)) 33)).drewN n)) (fun i _=>9-(intOf i).toNat)
 case atStart=>exact⟨0,0,by omega,rfl,by rw[ofw,nw9_zero];rfl⟩
 case round=>
  obtain⟨k,n,x,rfl,rfl⟩:=hrel
  by_cases hlt:k<9
  ·have j:(0:Int)≤k:=by omega
   have q:=fun w=>between_any m (wd a k) (wd b k) hm (wd_lt a k) (wd_lt b k) w
   go_wp2
   go_region_held3 (fun d=>d.cell? ⟨w.heap.size,k,none⟩=some (.int .u64 ((wd a k:Nat):Int))∧d.cell? ⟨w.heap.size+1,k,none⟩=some (.int .u64 ((wd b k:Nat):Int))) (simp[go_sem, *]) (first|(go_at_call 117;refine(q _).mono ?_;rintro e d ⟨rfl,rfl⟩))
   go_wp2
   go_roundw
   case rel=>
    refine⟨k+1,n+1,by omega,by go_num,?_⟩;simp[go_sem,ofw_set _ h]
   case measure=>simp[intOf];omega
  ·have f:Hid _:=show k=9 from by omega
   go_wp2
   exact bodyPost_ret (v:=.agg (nw 9 (ofw (fun i=>sel m (wd a i) (wd b i)) k))) (by simp[results,results116,go_sem,nw9_lit]) rfl ⟨by rw[f.out];rfl,(((((Gr.refl w).alloc _).alloc _).alloc _).alloc _).drewN _⟩
end
section
theorem select_any(m a b:Nat)(hm:m<18446744073709551616)(w:World):
 Cg 95 #[.int .u64 m,.agg (nw 9 a),.agg (nw 9 b)] w (.agg (nw 9 (selN m a b))):=by
 have C:Hid _:=each_any m a b hm
 go_enter func95,ntmps95
 go_wp2_with (go_at_call 116;refine hkA C fun g=>?_)
 exact bodyPost_ret (by simp[results,results95,go_sem,nw9_lit]) rfl ⟨rfl,grA⟩
end
end
end Go.Proofs.YtffhepbppiocbacGreat