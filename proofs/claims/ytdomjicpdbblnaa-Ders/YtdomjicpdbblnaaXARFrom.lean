import Derived.Shelf.Bits.Mul64
import Derived.Test.YtdomjicpdbblnaaXASl
namespace Go.Proofs.Ytdomjicpdbblnaa
open Go.RowKit Go.Proofs.Try
set_option maxRecDepth 100000
set_option maxHeartbeats 8000000
section
attribute [local go_sem ↓] uz1
attribute [local go_sem] uz2
section
theorem dg_i(x k:Nat):((dg x k:Nat):Int)%4294967296=((dg x k:Nat):Int):=by have:=dg_lt x k;omega
theorem mask_wd(a k:Nat):bits BinOp.and IntKind.u64 ((wd a k:Nat):Int) 4294967295=((dg a (2*k):Nat):Int):=by
 rw[Mul64.maskN _ (wd_lt a k),dg_even]
theorem half_wd(a k:Nat):((wd a k:Nat):Int)/4294967296=((dg a (2*k+1):Nat):Int):=by
 rw[dg_odd];omega
theorem pq_M:pq 18=M:=pq_two 9
theorem from_any(a:Nat)(ha:a<M)(w:World):Calls prog 13 #[.agg (nw 9 a)] w (Nm a w):=by
 have j:∀w,(Instr.makeSlice 36 (.int .i64 18) (.int .i64 18)).run prog w=.ok (.slice (some ⟨w.heap.size,0,none⟩) 18 18) (w.alloc (.cells (nd 18 0) 61)):=fun w=>make_digits 18 (by decide) w;have o:Hu (a<M):=fun _=>ha;clear ha
 go_enter func13,ntmps13
 go_wp2
 clear j
 go_loopw [4] (fun i wr=>∃k:Nat,k≤9∧i=.int .i64 k∧wr=(w.alloc (.cells (nw 9 a) 25)).alloc (.cells (nd 18 (a%pq (2*k))) 61)) (fun i _=>9-(intOf i).toNat)
 case atStart=>exact⟨0,by omega,rfl,by rw[Nat.mul_zero,pq_zero,Nat.mod_one]⟩
 case round=>
  obtain⟨k,C,rfl,rfl⟩:=hrel
  by_cases hlt:k<9
  ·have D:(0:Int)≤k:=by omega
   have G:(k:Int)<9:=by omega
   have H:=nw_get 9 a k hlt;have I:=mask_wd a k;have J:=half_wd a k;have K:=dg_i a (2*k);have L:=dg_i a (2*k+1);have q:=nd_next 18 a (2*k);have v:=nd_next 18 a (2*k+1);obtain⟨V,b⟩:=exl (a%pq (2*k));obtain⟨x,d⟩:=exl (a%pq (2*k+1));obtain⟨A,f⟩:=exl (a%pq (2*k+1+1));rw[b,d]at q;rw[d,f]at v;rw[b];have P:=nd_get 18 V (2*k) (by omega);have B:=nd_get 18 x (2*k+1) (by omega);have h:Hu (A=a%pq (2*(k+1))):=fun _=>f.symm
   go_wp2
   go_roundw
   case rel=>exact⟨k+1,by omega,by go_num,by rw[←h.out ()]⟩
   case measure=>simp[intOf];omega
  ·have l:Hu (k=9):=fun _=>by omega
   obtain⟨V,b⟩:=exl (a%pq (2*k))
   have h:Hu (V=a):=fun _=>by rw[←b,l.out (),pq_M,Nat.mod_eq_of_lt (o.out ())]
   rw[b]
   have m:V<pq 18:=by rw[h.out (),pq_M];exact o.out ()
   have p:Hu (V<pq 18):=fun _=>m
   go_wp2_with (go_at_call 26;refine(trim_nd _ _ 18 V (by decide) (p.out ()) (by simp[go_sem])).mono ?_;rintro e Q ⟨rfl,rfl⟩)
   go_ret
   exact Nm.mk (h.out ()) (p.out ()) (by simp[go_sem]) (by simp[go_sem]) grA
end
end
end Go.Proofs.Ytdomjicpdbblnaa