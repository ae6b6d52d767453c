import Derived.Test.YtghidgcekieljaaGreatXARSub
import Derived.Test.YtghidgcekieljaaGreatXAMixR
import Derived.Test.YtghidgcekieljaaGreatXAPC
namespace Go.Proofs.YtghidgcekieljaaGreat
open Go.RowKit Go.Proofs.Tryz
set_option maxRecDepth 100000
set_option maxHeartbeats 8000000
section
attribute [local go_sem ↓] uz1
attribute [local go_sem] uz2
section
def hexD(c:Nat):Nat:=if 97≤c then c-87 else c-48
def hexOk(c:Nat):Bool:=(decide (48≤c)&&decide (c<58)) || (decide (97≤c)&&decide (c<103))
theorem hexD_lt(c:Nat)(h:hexOk c=true):hexD c<16:=by
 unfold hexOk at h;unfold hexD;simp at h
 split <;> omega
theorem hexd_any(c:Nat)(h:hexOk c=true)(w:World):Calls prog 51 #[.int .u8 (c:Int)] w fun e w'=>e=.returned (.int .u32 ((hexD c:Nat):Int))∧w'=w:=by
 have h2:(48≤c∧c<58)∨(97≤c∧c<103):=by
  unfold hexOk at h;simp at h;exact h
 rcases h2 with h2|h2
 ·have e:hexD c=c-48:=by unfold hexD;rw[if_neg (by omega)]
  rw[e]
  have h97:¬(97:Int)≤(c:Int):=by omega
  have e2:((c:Int)-48)%256=((c-48:Nat):Int):=by omega
  have e3:((c-48:Nat):Int)%4294967296=((c-48:Nat):Int):=by omega
  have w2:IntKind.u8.wrap ((c:Int)-48)=((c-48:Nat):Int):=by rw[IntKind.wrap_u8];exact e2
  have w3:IntKind.u32.wrap ((c-48:Nat):Int)=((c-48:Nat):Int):=by rw[IntKind.wrap_u32];exact e3
  clear h h2 e;generalize c-48=d at *
  go_enter func51,ntmps51
  go_wp2
  go_ret
  exact⟨rfl,rfl⟩
 ·have e:hexD c=c-87:=by unfold hexD;rw[if_pos (by omega)]
  rw[e]
  have e2:((c:Int)-97)%256=((c-97:Nat):Int):=by omega
  have e4:(((c-97:Nat):Int)+10)%4294967296=((c-87:Nat):Int):=by omega
  have w2:IntKind.u8.wrap ((c:Int)-97)=((c-97:Nat):Int):=by rw[IntKind.wrap_u8];exact e2
  have w4:IntKind.u32.wrap (((c-97:Nat):Int)+10)=((c-87:Nat):Int):=by rw[IntKind.wrap_u32];exact e4
  generalize c-87=f at *;generalize c-97=d at *
  go_enter func51,ntmps51
  go_wp2
  go_ret
  exact⟨rfl,rfl⟩
end
section
theorem digit_nd(w:World)(b x N:Nat)(hb:blk w b=nd N x)(hx:x<pq N)(i:Nat):
 Calls prog 42 #[.slice (some ⟨b,0,none⟩) N N,.int .i64 (i:Int)] w fun e w'=>e=.returned (.int .u64 ((dg x i:Nat):Int))∧w'=w:=by
 by_cases hi:i<N
 ·have hi':(i:Int)<(N:Int):=by omega
  have hg:w.cell? ⟨b,i,none⟩=some (.int .u32 ((dg x i:Nat):Int)):=by rw[cell_blk,hb];exact nd_get N x i hi
  have hl:=dg_lt x i
  go_enter func42,ntmps42
  go_wp2
  go_ret
  exact⟨rfl,rfl⟩
 ·have hi':¬(i:Int)<(N:Int):=by omega
  have hz:dg x i=0:=by
   unfold dg;have hlt:=Nat.lt_of_lt_of_le hx (show pq N≤pq i from Nat.pow_le_pow_right (by decide) (by omega));rw[Nat.div_eq_of_lt hlt]
  go_enter func42,ntmps42
  go_wp2
  go_ret
  exact⟨rfl,rfl⟩
theorem rshr0_nd(x N b:Nat)(w:World)(hb:blk w b=nd N x)(hp:Pre (b+1) w.heap.size)(hx:x<pq N)(hN0:0<N)(hN:N≤50000):
 Calls prog 52 #[.slice (some ⟨b,0,none⟩) N N,.int .i64 0] w (Nm x w):=by
 have CD:Hid (∀(i:Int) (j:Nat) (v:World),i=(j:Int)→Gr w v→Calls prog 42 #[.slice (some ⟨b,0,none⟩) N N,.int .i64 i] v fun e w'=>e=.returned (.int .u64 ((dg x j:Nat):Int))∧w'=v):=fun i j v e g=>by
  subst e;exact digit_nd v b x N (by rw[g.blk b hp];exact hb) hx j
 have hmk:∀w,(Instr.makeSlice 29 (.int .i64 (N:Int)) (.int .i64 (N:Int))).run prog w=.ok (.slice (some ⟨w.heap.size,0,none⟩) N N) (w.alloc (.cells (nd N 0) 61)):=fun w=>make_digits N (by omega) w
 have kb:Hu (N≤100000):=fun _=>by omega
 have n1:(N:Int)≤50000:=by omega
 have n2:¬(N:Int)≤0:=by omega
 have HB:Hu (_):=fun _=>hx;clear hb hp hx hN0 hN
 go_enter func52,ntmps52
 go_wp2
 clear hmk
 go_loopw [6] (fun i wr=>∃j:Nat,j≤N∧i=.int .i64 (j:Int)∧wr=w.alloc (.cells (nd N (x%pq j)) 61)) (fun i _=>N-(intOf i).toNat)
 case atStart=>exact⟨0,by omega,rfl,by rw[pq_zero,Nat.mod_one]⟩
 case round=>
  obtain⟨j,hj,rfl,rfl⟩:=hrel
  by_cases hlt:j<N
  ·have j0:(0:Int)≤(j:Int):=by omega
   have j1:(j:Int)<(N:Int):=by omega
   obtain⟨T,S,f1,f2,f3⟩:=shr_round x j 0 0 (by decide);rw[Nat.mul_zero,Nat.add_zero,Nat.pow_zero,Nat.div_one]at f3;rw[Nat.add_zero]at f1;rw[Int.pow_zero,Int.ediv_one]at f2;obtain⟨V,hV⟩:=exl (x%pq j);rw[hV];have gV:=nd_get N V j hlt;have f4:=dg_lt x j
   have HS:Hu ((nd N V).setIfInBounds j (.int .u32 ((dg x j:Nat):Int))=nd N (x%pq (j+1))):=fun _=>by
    rw[nd_set_top N V j _ f4 (by rw[←hV];exact Nat.mod_lt _ (pq_pos j)),dmod_succ,hV]
   have hST:S=T:=by omega
   subst hST
   go_wp2_with (first
    | (go_at_call 42;refine(CD.out _ j _ ?_ ?_).mono ?_;omega;exact grA;rintro e w' ⟨rfl,rfl⟩)
    | (go_at_call 42;refine(CD.out _ (j+1) _ ?_ ?_).mono ?_;omega;exact grA;rintro e w' ⟨rfl,rfl⟩))
   go_roundw
   case rel=>exact⟨j+1,by omega,by go_num,by rw[HS.out ()]⟩
   case measure=>simp[intOf];omega
  ·have hjN:j=N:=by omega
   obtain⟨V,hV⟩:=exl (x%pq j);rw[hV]
   have HV:Hu (V=x):=fun _=>by rw[←hV,hjN,Nat.mod_eq_of_lt (HB.out ())]
   have HB':Hu (V<pq N):=fun _=>by rw[HV.out ()];exact HB.out ()
   go_wp2_with (go_at_call 35;refine(trim_nd _ _ N V (kb.out ()) (HB'.out ()) (by simp[go_sem])).mono ?_;rintro e w' ⟨rfl,rfl⟩)
   go_ret
   exact Nm.mk (HV.out ()) (HB'.out ()) (by simp[go_sem]) (by simp[go_sem]) grA
end
end
end Go.Proofs.YtghidgcekieljaaGreat