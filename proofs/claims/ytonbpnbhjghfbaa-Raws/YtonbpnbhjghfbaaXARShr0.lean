import Derived.Test.YtonbpnbhjghfbaaXARSub
import Derived.Test.YtonbpnbhjghfbaaXAMixR
import Derived.Test.YtonbpnbhjghfbaaXANN
namespace Go.Proofs.Ytonbpnbhjghfbaa
open Go.RowKit Go.Proofs.Try
set_option maxRecDepth 100000
set_option maxHeartbeats 8000000
section
attribute [local go_sem ↓] uz1
attribute [local go_sem] uz2
section
def hexD(c:Nat):Nat:=if 97≤c then c-87 else c-48
def hexOk(c:Nat):Bool:=(decide (48≤c)&&decide (c<58)) || (decide (97≤c)&&decide (c<103))
theorem hexD_lt(c:Nat)(h:hexOk c=true):hexD c<16:=by
 unfold hexOk at h;unfold hexD;simp at h
 split <;> omega
theorem hexd_any(c:Nat)(h:hexOk c=true)(w:World):Calls prog 34 #[.int .u8 c] w fun e w'=>e=.returned (.int .u32 ((hexD c:Nat):Int))∧w'=w:=by
 have i:(48≤c∧c<58)∨(97≤c∧c<103):=by
  unfold hexOk at h;simp at h;exact h
 rcases i with i|i
 ·have e:hexD c=c-48:=by unfold hexD;rw[if_neg (by omega)]
  rw[e]
  have l:¬(97:Int)≤c:=by omega
  have j:((c:Int)-48)%256=((c-48:Nat):Int):=by omega
  have q:((c-48:Nat):Int)%4294967296=((c-48:Nat):Int):=by omega
  have v:IntKind.u8.wrap ((c:Int)-48)=((c-48:Nat):Int):=by rw[IntKind.wrap_u8];exact j
  have A:IntKind.u32.wrap ((c-48:Nat):Int)=((c-48:Nat):Int):=by rw[IntKind.wrap_u32];exact q
  clear h i e;generalize c-48=d at *
  go_enter func34,ntmps34
  go_wp2
  go_ret
  exact⟨rfl,rfl⟩
 ·have e:hexD c=c-87:=by unfold hexD;rw[if_pos (by omega)]
  rw[e]
  have j:((c:Int)-97)%256=((c-97:Nat):Int):=by omega
  have x:(((c-97:Nat):Int)+10)%4294967296=((c-87:Nat):Int):=by omega
  have v:IntKind.u8.wrap ((c:Int)-97)=((c-97:Nat):Int):=by rw[IntKind.wrap_u8];exact j
  have B:IntKind.u32.wrap (((c-97:Nat):Int)+10)=((c-87:Nat):Int):=by rw[IntKind.wrap_u32];exact x
  generalize c-87=f at *;generalize c-97=d at *
  go_enter func34,ntmps34
  go_wp2
  go_ret
  exact⟨rfl,rfl⟩
end
section
theorem digit_nd(w:World)(b x N:Nat)(hb:blk w b=nd N x)(hx:x<pq N)(i:Nat):
 Calls prog 30 #[.slice (some ⟨b,0,none⟩) N N,.int .i64 i] w fun e w'=>e=.returned (.int .u64 ((dg x i:Nat):Int))∧w'=w:=by
 by_cases hi:i<N
 ·have d:(i:Int)<N:=by omega
  have h:w.cell? ⟨b,i,none⟩=some (.int .u32 ((dg x i:Nat):Int)):=by rw[cell_blk,hb];exact nd_get N x i hi
  have j:=dg_lt x i
  go_enter func30,ntmps30
  go_wp2
  go_ret
  exact⟨rfl,rfl⟩
 ·have d:¬(i:Int)<N:=by omega
  have l:dg x i=0:=by
   unfold dg;have f:=Nat.lt_of_lt_of_le hx (show pq N≤pq i from Nat.pow_le_pow_right (by decide) (by omega));rw[Nat.div_eq_of_lt f]
  go_enter func30,ntmps30
  go_wp2
  go_ret
  exact⟨rfl,rfl⟩
theorem rshr0_nd(x N b:Nat)(w:World)(hb:blk w b=nd N x)(hp:Pre (b+1) w.heap.size)(hx:x<pq N)(hN0:0<N)(hN:N≤50000):
 Calls prog 35 #[.slice (some ⟨b,0,none⟩) N N,.int .i64 0] w (Nm x w):=by
 have B:Hid (∀(i:Int) (j:Nat) (v:World),i=(j:Int)→Gr w v→Calls prog 30 #[.slice (some ⟨b,0,none⟩) N N,.int .i64 i] v fun e h=>e=.returned (.int .u64 ((dg x j:Nat):Int))∧h=v):=fun i j v e g=>by
  subst e;exact digit_nd v b x N (by rw[g.blk b hp];exact hb) hx j
 have l:∀w,(Instr.makeSlice 29 (.int .i64 N) (.int .i64 N)).run prog w=.ok (.slice (some ⟨w.heap.size,0,none⟩) N N) (w.alloc (.cells (nd N 0) 56)):=fun w=>make_digits N (by omega) w
 have G:Hu (N≤100000):=fun _=>by omega
 have P:(N:Int)≤50000:=by omega
 have Q:¬(N:Int)≤0:=by omega
 have C:Hu (_):=fun _=>hx;clear hb hp hx hN0 hN
 go_enter func35,ntmps35
 go_wp2
 clear l
 go_loopw [6] (fun i wr=>∃j:Nat,j≤N∧i=.int .i64 j∧wr=w.alloc (.cells (nd N (x%pq j)) 56)) (fun i _=>N-(intOf i).toNat)
 case atStart=>exact⟨0,by omega,rfl,by rw[pq_zero,Nat.mod_one]⟩
 case round=>
  obtain⟨j,R,rfl,rfl⟩:=hrel
  by_cases hlt:j<N
  ·have U:(0:Int)≤j:=by omega
   have W:(j:Int)<N:=by omega
   obtain⟨T,S,H,I,J⟩:=shr_round x j 0 0 (by decide);rw[Nat.mul_zero,Nat.add_zero,Nat.pow_zero,Nat.div_one]at J;rw[Nat.add_zero]at H;rw[Int.pow_zero,Int.ediv_one]at I;obtain⟨V,d⟩:=exl (x%pq j);rw[d];have X:=nd_get N V j hlt;have K:=dg_lt x j
   have L:Hu ((nd N V).setIfInBounds j (.int .u32 ((dg x j:Nat):Int))=nd N (x%pq (j+1))):=fun _=>by
    rw[nd_set_top N V j _ K (by rw[←d];exact Nat.mod_lt _ (pq_pos j)),dmod_succ,d]
   have q:S=T:=by omega
   subst q
   go_wp2_with (first
    | (go_at_call 30;refine(B.out _ j _ ?_ ?_).mono ?_;omega;exact grA;rintro e h ⟨rfl,rfl⟩)
    | (go_at_call 30;refine(B.out _ (j+1) _ ?_ ?_).mono ?_;omega;exact grA;rintro e h ⟨rfl,rfl⟩))
   go_roundw
   case rel=>exact⟨j+1,by omega,by go_num,by rw[L.out ()]⟩
   case measure=>simp[intOf];omega
  ·have A:j=N:=by omega
   obtain⟨V,d⟩:=exl (x%pq j);rw[d]
   have D:Hu (V=x):=fun _=>by rw[←d,A,Nat.mod_eq_of_lt (C.out ())]
   have f:Hu (V<pq N):=fun _=>by rw[D.out ()];exact C.out ()
   go_wp2_with (go_at_call 32;refine(trim_nd _ _ N V (G.out ()) (f.out ()) (by simp[go_sem])).mono ?_;rintro e h ⟨rfl,rfl⟩)
   go_ret
   exact Nm.mk (D.out ()) (f.out ()) (by simp[go_sem]) (by simp[go_sem]) grA
end
end
end Go.Proofs.Ytonbpnbhjghfbaa