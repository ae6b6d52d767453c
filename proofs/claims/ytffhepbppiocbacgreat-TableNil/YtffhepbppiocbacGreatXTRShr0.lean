import Derived.Test.YtffhepbppiocbacGreatXTRSub
import Derived.Test.YtffhepbppiocbacGreatXTMixR
import Derived.Test.YtffhepbppiocbacGreatXTPC
namespace Go.Proofs.YtffhepbppiocbacGreat
open Go.RowKit Go.Proofs.Tryz
set_option maxRecDepth 100000
set_option maxHeartbeats 8000000
section
attribute [local go_sem ↓] uz1
attribute [local go_sem] uz2
section
def hexD(c:Nat):Nat:=if 97≤c then c-87 else c-48
def hexOk(c:Nat):Bool:=(decide (48≤c)&&decide (c<58)) || (decide (97≤c)&&decide (c<103))
theorem hexD_lt(c:Nat)(h:hexOk c=true):hexD c<16:=by
 unfold hexOk at h;unfold hexD;simp at h
 split <;> omega
theorem hexd_any(c:Nat)(h:hexOk c=true)(w:World):Calls prog 72 #[.int .u8 c] w fun e w'=>e=.returned (.int .u32 ((hexD c:Nat):Int))∧w'=w:=by
 have i:(48≤c∧c<58)∨(97≤c∧c<103):=by
  unfold hexOk at h;simp at h;exact h
 rcases i with i|i
 ·have e:hexD c=c-48:=by unfold hexD;rw[if_neg (by omega)]
  rw[e]
  have q:¬(97:Int)≤c:=by omega
  have j:((c:Int)-48)%256=((c-48:Nat):Int):=by omega
  have x:((c-48:Nat):Int)%4294967296=((c-48:Nat):Int):=by omega
  have A:IntKind.u8.wrap ((c:Int)-48)=((c-48:Nat):Int):=by rw[IntKind.wrap_u8];exact j
  have C:IntKind.u32.wrap ((c-48:Nat):Int)=((c-48:Nat):Int):=by rw[IntKind.wrap_u32];exact x
  clear h i e;generalize c-48=d at *
  go_enter func72,ntmps72
  go_wp2
  go_ret
  exact⟨rfl,rfl⟩
 ·have e:hexD c=c-87:=by unfold hexD;rw[if_pos (by omega)]
  rw[e]
  have j:((c:Int)-97)%256=((c-97:Nat):Int):=by omega
  have B:(((c-97:Nat):Int)+10)%4294967296=((c-87:Nat):Int):=by omega
  have A:IntKind.u8.wrap ((c:Int)-97)=((c-97:Nat):Int):=by rw[IntKind.wrap_u8];exact j
  have D:IntKind.u32.wrap (((c-97:Nat):Int)+10)=((c-87:Nat):Int):=by rw[IntKind.wrap_u32];exact B
  generalize c-87=f at *;generalize c-97=d at *
  go_enter func72,ntmps72
  go_wp2
  go_ret
  exact⟨rfl,rfl⟩
end
section
theorem digit_nd(w:World)(b x N:Nat)(hb:blk w b=nd N x)(hx:x<pq N)(i:Nat):
 Calls prog 66 #[.slice (some ⟨b,0,none⟩) N N,.int .i64 i] w fun e w'=>e=.returned (.int .u64 ((dg x i:Nat):Int))∧w'=w:=by
 by_cases hi:i<N
 ·have d:(i:Int)<N:=by omega
  have h:w.cell? ⟨b,i,none⟩=some (.int .u32 ((dg x i:Nat):Int)):=by rw[cell_blk,hb];exact nd_get N x i hi
  have j:=dg_lt x i
  go_enter func66,ntmps66
  go_wp2
  go_ret
  exact⟨rfl,rfl⟩
 ·have d:¬(i:Int)<N:=by omega
  have q:dg x i=0:=by
   unfold dg;have f:=Nat.lt_of_lt_of_le hx (show pq N≤pq i from Nat.pow_le_pow_right (by decide) (by omega));rw[Nat.div_eq_of_lt f]
  go_enter func66,ntmps66
  go_wp2
  go_ret
  exact⟨rfl,rfl⟩
theorem rshr0_nd(x N b:Nat)(w:World)(hb:blk w b=nd N x)(hp:Pre (b+1) w.heap.size)(hx:x<pq N)(hN0:0<N)(hN:N≤50000):
 Calls prog 73 #[.slice (some ⟨b,0,none⟩) N N,.int .i64 0] w (Nm x w):=by
 have C:Hid (∀(i:Int) (j:Nat) (v:World),i=(j:Int)→Gr w v→Calls prog 66 #[.slice (some ⟨b,0,none⟩) N N,.int .i64 i] v fun e h=>e=.returned (.int .u64 ((dg x j:Nat):Int))∧h=v):=fun i j v e g=>by
  subst e;exact digit_nd v b x N (by rw[g.blk b hp];exact hb) hx j
 have q:∀w,(Instr.makeSlice 25 (.int .i64 N) (.int .i64 N)).run prog w=.ok (.slice (some ⟨w.heap.size,0,none⟩) N N) (w.alloc (.cells (nd N 0) 71)):=fun w=>make_digits N (by omega) w
 have H:Hu (N≤100000):=fun _=>by omega
 have Q:(N:Int)≤50000:=by omega
 have U:¬(N:Int)≤0:=by omega
 have D:Hu (_):=fun _=>hx;clear hb hp hx hN0 hN
 go_enter func73,ntmps73
 go_wp2
 clear q
 go_loopw [6] (fun i wr=>∃j:Nat,j≤N∧i=.int .i64 j∧wr=w.alloc (.cells (nd N (x%pq j)) 71)) (fun i _=>N-(intOf i).toNat)
 case atStart=>exact⟨0,by omega,rfl,by rw[pq_zero,Nat.mod_one]⟩
 case round=>
  obtain⟨j,W,rfl,rfl⟩:=hrel
  by_cases hlt:j<N
  ·have X:(0:Int)≤j:=by omega
   have Y:(j:Int)<N:=by omega
   obtain⟨T,S,I,J,K⟩:=shr_round x j 0 0 (by decide);rw[Nat.mul_zero,Nat.add_zero,Nat.pow_zero,Nat.div_one]at K;rw[Nat.add_zero]at I;rw[Int.pow_zero,Int.ediv_one]at J;obtain⟨V,d⟩:=exl (x%pq j);rw[d];have Z:=nd_get N V j hlt;have L:=dg_lt x j
   have P:Hu ((nd N V).setIfInBounds j (.int .u32 ((dg x j:Nat):Int))=nd N (x%pq (j+1))):=fun _=>by
    rw[nd_set_top N V j _ L (by rw[←d];exact Nat.mod_lt _ (pq_pos j)),dmod_succ,d]
   have A:S=T:=by omega
   subst A
   go_wp2_with (first
    | (go_at_call 66;refine(C.out _ j _ ?_ ?_).mono ?_;omega;exact grA;rintro e h ⟨rfl,rfl⟩)
    | (go_at_call 66;refine(C.out _ (j+1) _ ?_ ?_).mono ?_;omega;exact grA;rintro e h ⟨rfl,rfl⟩))
   go_roundw
   case rel=>exact⟨j+1,by omega,by go_num,by rw[P.out ()]⟩
   case measure=>simp[intOf];omega
  ·have B:j=N:=by omega
   obtain⟨V,d⟩:=exl (x%pq j);rw[d]
   have G:Hu (V=x):=fun _=>by rw[←d,B,Nat.mod_eq_of_lt (D.out ())]
   have f:Hu (V<pq N):=fun _=>by rw[G.out ()];exact D.out ()
   go_wp2_with (go_at_call 52;refine(trim_nd _ _ N V (H.out ()) (f.out ()) (by simp[go_sem])).mono ?_;rintro e h ⟨rfl,rfl⟩)
   go_ret
   exact Nm.mk (G.out ()) (f.out ()) (by simp[go_sem]) (by simp[go_sem]) grA
end
end
end Go.Proofs.YtffhepbppiocbacGreat