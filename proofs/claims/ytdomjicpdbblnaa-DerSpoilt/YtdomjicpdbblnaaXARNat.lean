import Derived.Shelf.Bits.Mul64
import Derived.Test.YtdomjicpdbblnaaXASl
namespace Go.Proofs.Ytdomjicpdbblnaa
open Go.RowKit Go.Proofs.Try
set_option maxRecDepth 100000
set_option maxHeartbeats 8000000
section
attribute [local go_sem ↓] uz1
attribute [local go_sem] uz2
section
theorem digits_in(w:World)(p:Option Addr)(x n:Nat)(h:Sl w p x):∀(i:Int) (j:Nat) (v:World),i=(j:Int)→Gr w v→Calls prog 33 #[.slice p (dl x) n,.int .i64 i] v fun e w'=>e=.returned (.int .u64 ((dg x j:Nat):Int))∧w'=v:=fun i j v e g=>by
 subst e;exact digit_any v p x n j (h.gr g)
theorem wd_mod(x n k:Nat)(h:k<n):wd (x%pw n) k=wd x k:=by
 obtain⟨d,rfl⟩:∃d,n=k+1+d:=⟨n-(k+1),by omega⟩;unfold wd;rw[pw_add,pow_succ64,Nat.mul_assoc,Nat.mod_mul_right_div_self,Nat.mod_mul_right_mod]
theorem nw_mod(x n:Nat):nw n (x%pw n)=nw n x:=by
 apply Array.ext_getElem?
 grind [nw_get,wd_mod,nw_size]
theorem or_word(x k:Nat):bits BinOp.or IntKind.u64 ((dg x (2*k):Nat):Int) (IntKind.u64.wrap (((dg x (2*k+1):Nat):Int)*4294967296))=((wd x k:Nat):Int):=by
 have b:=dg_lt x (2*k);have j:=dg_lt x (2*k+1);rw[wd_two];generalize dg x (2*k)=d at *;generalize dg x (2*k+1)=e at *
 have f:IntKind.u64.wrap ((e:Int)*4294967296)=((e*4294967296:Nat):Int):=by rw[IntKind.wrap_u64];omega
 rw[f,bits_or_u64_nat d (e*4294967296) (by omega) (by omega)];have h:=Nat.two_pow_add_eq_or_of_lt (i:=32) b e;rw[Nat.or_comm,show e*4294967296=2^32*e from Nat.mul_comm _ _,←h,Nat.add_comm]
theorem rnat_any(x n:Nat)(p:Option Addr)(w:World)(h:Sl w p x):Cg 22 #[.slice p (dl x) n] w (.agg (nw 9 x)):=by
 have j:=digits_in w p x n h;obtain⟨L,m⟩:=exl (dl x);rw[m]at j ⊢;have l:Hid _:=j
 go_enter func22,ntmps22
 go_wp2
 go_loopw [4] (fun i wr=>∃k:Nat,k≤9∧i=.int .i64 k∧wr=(w.alloc (.cells (nw 9 0) 25)).alloc (.cells (nw 9 (x%pw k)) 25)) (fun i _=>9-(intOf i).toNat)
 case atStart=>exact⟨0,by omega,rfl,by rw[pw_zero,Nat.mod_one]⟩
 case round=>
  obtain⟨k,q,rfl,rfl⟩:=hrel
  by_cases hlt:k<9
  ·have A:(0:Int)≤k:=by omega
   obtain⟨V,b⟩:=exl (x%pw k);rw[b];have d:Hu (_):=fun _=>b
   go_wp2_with (first
    | (go_at_call 33;refine(l.out _ (2*k) _ ?_ ?_).mono ?_;omega;exact grA;rintro e o ⟨rfl,rfl⟩)
    | (go_at_call 33;refine(l.out _ (2*k+1) _ ?_ ?_).mono ?_;omega;exact grA;rintro e o ⟨rfl,rfl⟩))
   go_roundw
   case rel=>
    refine⟨k+1,by omega,by go_num,?_⟩;rw[or_word,nw_set_top 9 V k _ (wd_lt x k) (by rw[←d.out ()];exact Nat.mod_lt _ (pw_pos k)),mod_succ,d.out ()]
   case measure=>simp[intOf];omega
  ·have f:Hu (k=9):=fun _=>by omega
   obtain⟨V,b⟩:=exl (x%pw k)
   have d:Hu (nw 9 V=nw 9 x):=fun _=>by rw[←b,f.out (),nw_mod]
   rw[b]
   go_wp2
   exact bodyPost_ret (v:=.agg (nw 9 V)) (by simp[results,results22,go_sem,nw9_lit]) rfl ⟨by rw[d.out ()],grA⟩
end
end
end Go.Proofs.Ytdomjicpdbblnaa