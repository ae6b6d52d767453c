import Derived.Test.YtffhepbppiocbaaGreatXAAS
namespace Go.Proofs.YtffhepbppiocbaaGreat
open Go.RowKit Go.Proofs.Tryz
set_option maxRecDepth 100000
set_option maxHeartbeats 8000000
section
attribute [local go_sem ↓] uz1
attribute [local go_sem] uz2
section
attribute [local go_sem] uz7
attribute [local go_sem ↓] uz12 Go.wp_at_zero Go.wp_at_succ
attribute [local go_sem] uz13
theorem oN1_bd(i:Nat):oN i+1<M:=by
 unfold oN
 split <;> decide +kernel
theorem laorder_any(id:Int)(n1:Nat)(bn1:n1<18446744073709551616)(w:World):Cg 8 #[.int .i64 id,.int .u64 n1] w (.bool true):=by
 obtain⟨u,hu,aa,hk⟩:=idx_conv id;have I:=idx_bd id;obtain⟨k,J⟩:=exl (idx id);rw[J]at hk I;obtain⟨i,l⟩:=I
 have u0:(0:Int)≤u:=by omega
 have ab:(1:Int)+u%15=k:=by omega
 have ac:IntKind.i64.wrap ((u:Int)%15)=(u:Int)%15:=by rw[IntKind.wrap_i64];omega
 have ae:IntKind.u64.wrap ((u:Int)%15)=(u:Int)%15:=by rw[IntKind.wrap_u64];omega
 have af:(u:Int).tmod 15=(u:Int)%15:=by rw[Int.tmod_eq_emod_of_nonneg (by omega)]
 have k0:(1:Int)≤k:=by omega
 have k1:(k:Int)≤15:=by omega
 have ag:id%18446744073709551616=(u:Int):=by rw[←hu,IntKind.wrap_u64]
 clear J hk;have K:Hid (∀w,Calls prog 9 #[.int .i64 k] w (GetQ k w)):=fun w=>getq_yes k i l w;have L:Hid (∀w,Cg 13 #[] w (.bool true)):=fun w=>awake14_any w
 go_enter func8,ntmps8
 go_upto_region 6 with (first
  | (go_at_call 13;refine(L.out _).mono ?_;rintro e WA ⟨rfl,GA⟩)
  | (go_at_call 9;refine(K.out _).mono ?_;rintro e WB ⟨B,rfl,x,GB⟩))
 obtain⟨Q,D⟩:=exl (WB.heap.size);simp only[D]
 refine gen_w (fun v=>Gr w v∧Vr v Q (crA (k:Int) (nN k) B)∧∀j,Sl v (B j).1 (nN k j)) ?_ ?_
 ·subst D;exact⟨(GA.trans GB).alloc _,Vr.new _ _ _,fun j=>(x j).gr ((Gr.refl _).alloc _)⟩
 clear D GA GB x L K hu aa ab ac ae af ag u0 k0 k1;rintro v0 ⟨G,A,x⟩;obtain⟨P,hP⟩:=exl (mlQ k n1 (gQ k));have S:OnQ k P:=hP▸mlQ_on i l _ (gQ_on i l);have bP:=bn1;have ar:=oN_dl k;have U:∀w,(bslS 29 1 #[(0,.int .u32 1)]).run prog w=.ok (.slice (some ⟨w.heap.size,0,none⟩) 1 1) (w.alloc (.cells (nd 1 1) 65)):=fun w=>build1 1 (by decide) w
 have V:mlQ k (oN k) P=inf:=by rw[←hP,←mlQ_mul i l _ _ (gQ_on i l),Nat.mul_comm,mlQ_mul i l _ _ (gQ_on i l),mlQ_N i l,mlQ_inf i l]
 have ah:mlQ k (oN k+1) P=P:=by rw[mlQ_add i l _ _ S,V,mlQ_one i l S,inf_plQ i l S]
 refine wp_v false [.c (.agg (crA (k:Int) (nN k) B)),.c (.int .u64 n1),.c (.agg (pnQ P)),.a,.u] [0,2] [⟨3,4,27,pnt 0 0 false,fun _=>pnQ P⟩] ⟨.g 31 0 A rfl,.k _ fun C H d W=>RtW.of_c (Rt.c (some_is i l bP hP B _ (fun j=>(x j).gr d))),⟨⟩⟩ ⟨.k zPnt (.t rfl),⟨⟩⟩ fun X v1 d h6 ai=>?_;simp only[fzw,Kw.a];obtain⟨⟨aq,f⟩,-⟩:(v0.heap.size≤(X 3 0).2∧Vr v1 (X 3 0).2 (pnQ P))∧True:=ai;clear h6;replace G:=G.trans d;replace A:=A.gr d;replace x:=fun k=>(x k).gr d;clear d
 go_upto_region 7 with fail
 refine wp_v true [.c (pv Q 0),.c (.int .i64 k),.c (pv Q 4),.c (.slice (B 3).1 (dl (oN k)) (B 3).2),.N (oN k),.c (.agg (pnQ P)),.E (.agg (pnt 0 0 true)),.E (.agg (pnt 0 0 true)),.c (.agg (pnt 0 0 true)),.O,.a,.u,.O] [1,3,4,5,6] [⟨10,11,27,pnt 0 0 false,fun _=>pnt 0 0 true⟩] ⟨.o 3 0 A rfl rfl,.o 29 4 A rfl rfl,.k (fun C =>#[.slice (B 3).1 (dl (oN k)) (B 3).2]) fun C H d W=>RtW.of_c (nt_any ((x 3).gr d)),.g 27 0 f rfl,.z (mulQ i l (P:=P) (R:=inf) S (oN_bd k) V),⟨⟩⟩ ⟨.k zPnt (.t rfl),⟨⟩⟩ fun Y v2 d h7 aj=>?_;simp only[fzw,Kw.a];obtain⟨⟨ak,h⟩,-⟩:(v1.heap.size≤(Y 10 0).2∧Vr v2 (Y 10 0).2 (pnt 0 0 true))∧True:=aj;clear h7;replace G:=G.trans d;replace A:=A.gr d;replace f:=f.gr d;replace x:=fun k=>(x k).gr d;clear d
 go_upto_region 8 with fail
 refine wp_v true [.c (pv Q 0),.c (.int .i64 k),.c (pv Q 4),.c (.slice (B 3).1 (dl (oN k)) (B 3).2),.n (1),.n (oN k+1),.N (oN k+1),.c (.agg (pnQ P)),.E (.agg (pnQ P)),.E (.agg (pnQ P)),.c (.agg (pnQ P)),.O,.a,.u,.O] [1,3,4,5,6,7,8] [⟨12,13,27,pnt 0 0 false,fun _=>pnQ P⟩] ⟨.o 3 0 A rfl rfl,.o 29 4 A rfl rfl,.b (.buildSlice 29 1 #[(0,.const (.int .u32 1))]) rfl rfl (fun H=>by simp[go_sem,exI,U];rfl) (sl_lit 1 (by decide)),.k (fun C =>#[.slice (B 3).1 (dl (oN k)) (B 3).2,.slice (C 4 0).1 (dl (1)) (C 4 0).2]) fun C H d W=>RtW.of_n (Rt.n (radd_any (oN k) 1 _ _ _ _ _ ((x 3).gr d) (W 4 rfl) (by omega) (by decide))),.k (fun C =>#[.slice (C 5 0).1 (dl (oN k+1)) (C 5 0).2]) fun C H d W=>RtW.of_c (nt_any (W 5 rfl)),.g 27 0 f rfl,.z (mulQ i l (P:=P) (R:=P) S (oN1_bd k) ah),⟨⟩⟩ ⟨.k zPnt ⟨fkc,fkc,fkc,fkc,fkn bPnt,fkn bPnt,fkc,fkc,fkc,fkc,fkc,fkc,fka,fku,fkc,trivial⟩,⟨⟩⟩ fun Z v3 d h8 ao=>?_;simp only[fzw,Kw.a];obtain⟨⟨ap,q⟩,-⟩:(v2.heap.size≤(Z 12 0).2∧Vr v3 (Z 12 0).2 (pnQ P))∧True:=ao;clear h8;replace G:=G.trans d;replace A:=A.gr d;replace f:=f.gr d;replace h:=h.gr d;replace x:=fun k=>(x k).gr d;clear d
 go_upto_region 9 with fail
 refine wp_wS [.O,.O,.T,.T,.O,.O,.T,.T,.T,.c (.agg (pnt 0 0 true)),.c (.agg (pnt 0 0 true)),.T,.T,.T,.c (.agg (pnQ P)),.c (.agg (pnQ P)),.T,.T,.T] [1,5,9,11,14,15,16] ⟨.y (num_any _),.y (num_any _),.g 27 0 h rfl,.s (.binOp .eql 27 (.const (.agg (pnt 0 0 true))) (.const (.agg (pnt 0 0 true))) 27) rfl fun H d=>by simp[go_sem,exI,eqPn,eqN_self],.g 27 0 q rfl,.g 27 0 f rfl,.s (.binOp .eql 27 (.const (.agg (pnQ P))) (.const (.agg (pnQ P))) 27) rfl fun H d=>by simp[go_sem,exI,eqPn,eqN_self],⟨⟩⟩ fun au v4 d h9=>?_;simp only[fzw];clear h9;replace G:=G.trans d;replace A:=A.gr d;replace f:=f.gr d;replace h:=h.gr d;replace q:=q.gr d;replace x:=fun k=>(x k).gr d;clear d
 go_wp2_with fail
 go_ret
 exact⟨rfl,G⟩
end
end
end Go.Proofs.YtffhepbppiocbaaGreat