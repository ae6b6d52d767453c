import Derived.Test.YtffhepbppiocbabGreatXAAR
namespace Go.Proofs.YtffhepbppiocbabGreat
open Go.RowKit Go.Proofs.Tryz
set_option maxRecDepth 100000
set_option maxHeartbeats 8000000
section
attribute [local go_sem ↓] uz1
attribute [local go_sem] uz2
section
attribute [local go_sem] uz7
attribute [local go_sem ↓] uz12 Go.wp_at_zero Go.wp_at_succ
attribute [local go_sem] uz13
theorem laopposite_any(id:Int)(n1 n2:Nat)(bn1:n1<18446744073709551616)(bn2:n2<18446744073709551616)(w:World):Cg 4 #[.int .i64 id,.int .u64 n1,.int .u64 n2] w (.bool true):=by
 obtain⟨u,hu,ag,hk⟩:=idx_conv id;have V:=idx_bd id;obtain⟨k,W⟩:=exl (idx id);rw[W]at hk V;obtain⟨I,J⟩:=V
 have u0:(0:Int)≤u:=by omega
 have ah:(1:Int)+u%15=k:=by omega
 have ai:IntKind.i64.wrap ((u:Int)%15)=(u:Int)%15:=by rw[IntKind.wrap_i64];omega
 have aj:IntKind.u64.wrap ((u:Int)%15)=(u:Int)%15:=by rw[IntKind.wrap_u64];omega
 have ak:(u:Int).tmod 15=(u:Int)%15:=by rw[Int.tmod_eq_emod_of_nonneg (by omega)]
 have k0:(1:Int)≤k:=by omega
 have k1:(k:Int)≤15:=by omega
 have ao:id%18446744073709551616=(u:Int):=by rw[←hu,IntKind.wrap_u64]
 clear W hk;have X:Hid (∀w,Calls prog 16 #[.int .i64 k] w (GetQ k w)):=fun w=>getq_yes k I J w;have Y:Hid (∀w,Cg 15 #[] w (.bool true)):=fun w=>awake14_any w
 go_enter func4,ntmps4
 go_upto_region 6 with (first
  | (go_at_call 15;refine(Y.out _).mono ?_;rintro e WA ⟨rfl,GA⟩)
  | (go_at_call 16;refine(X.out _).mono ?_;rintro e WB ⟨qc,rfl,D,GB⟩))
 obtain⟨S,Q⟩:=exl (WB.heap.size);simp only[Q]
 refine gen_w (fun v=>Gr w v∧Vr v S (crA (k:Int) (nN k) qc)∧∀j,Sl v (qc j).1 (nN k j)) ?_ ?_
 ·subst Q;exact⟨(GA.trans GB).alloc _,Vr.new _ _ _,fun j=>(D j).gr ((Gr.refl _).alloc _)⟩
 clear Q GA GB D Y X hu ag ah ai aj ak ao u0 k0 k1;rintro v0 ⟨G,C,D⟩;obtain⟨P,hP⟩:=exl (mlQ k n1 (gQ k));have U:OnQ k P:=hP▸mlQ_on I J _ (gQ_on I J);have bP:=bn1;obtain⟨N,hN⟩:=exl (ngQ k P);have oN:OnQ k N:=hN▸ngQ_on I J U;obtain⟨A,hA⟩:=exl (mlQ k n2 N);obtain⟨B,hB⟩:=exl (mlQ k n2 P);have oB:OnQ k B:=hB▸mlQ_on I J _ U
 have ap:ngQ k B=A:=by rw[←hB,←hA,←hN,mlQ_ng I J _ U]
 have aq:ngQ k N=P:=by rw[←hN,ngQ_ng I J U]
 refine wp_v false [.c (.agg (crA (k:Int) (nN k) qc)),.c (.int .u64 n1),.c (.agg (pnQ P)),.a,.u] [0,2] [⟨3,4,35,pnt 0 0 false,fun _=>pnQ P⟩] ⟨.g 27 0 C rfl,.k _ fun yy vv d hh=>RtW.of_c (Rt.c (some_is I J bP hP qc _ (fun j=>(D j).gr d))),⟨⟩⟩ ⟨.k zPnt (.t rfl),⟨⟩⟩ fun Z v1 d h6 ar=>?_;simp only[fzw,Kw.a];obtain⟨⟨aC,f⟩,-⟩:(v0.heap.size≤(Z 3 0).2∧Vr v1 (Z 3 0).2 (pnQ P))∧True:=ar;clear h6;replace G:=G.trans d;replace C:=C.gr d;replace D:=fun k=>(D k).gr d;clear d
 go_upto_region 7 with fail
 refine wp_v false [.c (pv S 0),.c (.int .i64 k),.c (.agg (pnQ P)),.E (.agg (pnQ N)),.E (.agg (pnQ N)),.c (.agg (pnQ N)),.O,.a,.u,.O] [1,2,3] [⟨7,8,35,pnt 0 0 false,fun _=>pnQ N⟩] ⟨.o 3 0 C rfl rfl,.g 35 0 f rfl,.z (negQ I J (P:=P) (R:=N) U hN),⟨⟩⟩ ⟨.k zPnt (.t rfl),⟨⟩⟩ fun aa v2 d h7 au=>?_;simp only[fzw,Kw.a];obtain⟨⟨aD,h⟩,-⟩:(v1.heap.size≤(aa 7 0).2∧Vr v2 (aa 7 0).2 (pnQ N))∧True:=au;clear h7;replace G:=G.trans d;replace C:=C.gr d;replace f:=f.gr d;replace D:=fun k=>(D k).gr d;clear d
 go_upto_region 8 with fail
 refine wp_v true [.c (pv S 0),.c (.int .i64 k),.c (.int .u64 n2),.N n2,.c (.agg (pnQ N)),.E (.agg (pnQ A)),.E (.agg (pnQ A)),.c (.agg (pnQ A)),.O,.a,.u,.O] [1,3,4,5] [⟨9,10,35,pnt 0 0 false,fun _=>pnQ A⟩] ⟨.o 3 0 C rfl rfl,.z (one_any _ bn2),.g 35 0 h rfl,.z (mulQ I J (P:=N) (R:=A) oN (lt_M _ bn2) hA),⟨⟩⟩ ⟨.k zPnt (.t rfl),⟨⟩⟩ fun ab v3 d h8 av=>?_;simp only[fzw,Kw.a];obtain⟨⟨aE,i⟩,-⟩:(v2.heap.size≤(ab 9 0).2∧Vr v3 (ab 9 0).2 (pnQ A))∧True:=av;clear h8;replace G:=G.trans d;replace C:=C.gr d;replace f:=f.gr d;replace h:=h.gr d;replace D:=fun k=>(D k).gr d;clear d
 go_upto_region 9 with fail
 refine wp_v true [.c (pv S 0),.c (.int .i64 k),.c (.int .u64 n2),.N n2,.c (.agg (pnQ P)),.E (.agg (pnQ B)),.E (.agg (pnQ B)),.c (.agg (pnQ B)),.O,.a,.u,.O] [1,3,4,5] [⟨9,10,35,pnt 0 0 false,fun _=>pnQ B⟩] ⟨.o 3 0 C rfl rfl,.z (one_any _ bn2),.g 35 0 f rfl,.z (mulQ I J (P:=P) (R:=B) U (lt_M _ bn2) hB),⟨⟩⟩ ⟨.k zPnt (.t rfl),⟨⟩⟩ fun ac v4 d h9 aw=>?_;simp only[fzw,Kw.a];obtain⟨⟨aG,q⟩,-⟩:(v3.heap.size≤(ac 9 0).2∧Vr v4 (ac 9 0).2 (pnQ B))∧True:=aw;clear h9;replace G:=G.trans d;replace C:=C.gr d;replace f:=f.gr d;replace h:=h.gr d;replace i:=i.gr d;replace D:=fun k=>(D k).gr d;clear d
 go_upto_region 10 with fail
 refine wp_v false [.c (pv S 0),.c (.int .i64 k),.c (.agg (pnQ B)),.E (.agg (pnQ A)),.E (.agg (pnQ A)),.c (.agg (pnQ A)),.O,.a,.u,.O] [1,2,3] [⟨7,8,35,pnt 0 0 false,fun _=>pnQ A⟩] ⟨.o 3 0 C rfl rfl,.g 35 0 q rfl,.z (negQ I J (P:=B) (R:=A) oB ap),⟨⟩⟩ ⟨.k zPnt (.t rfl),⟨⟩⟩ fun K v5 d ax ae=>?_;simp only[fzw,Kw.a];obtain⟨⟨ay,x⟩,-⟩:(v4.heap.size≤(K 7 0).2∧Vr v5 (K 7 0).2 (pnQ A))∧True:=ae;clear ax;replace G:=G.trans d;replace C:=C.gr d;replace f:=f.gr d;replace h:=h.gr d;replace i:=i.gr d;replace q:=q.gr d;replace D:=fun k=>(D k).gr d;clear d
 go_upto_region 11 with fail
 refine wp_v false [.c (pv S 0),.c (.int .i64 k),.c (.agg (pnQ N)),.E (.agg (pnQ P)),.E (.agg (pnQ P)),.c (.agg (pnQ P)),.O,.a,.u,.O] [1,2,3] [⟨7,8,35,pnt 0 0 false,fun _=>pnQ P⟩] ⟨.o 3 0 C rfl rfl,.g 35 0 h rfl,.z (negQ I J (P:=N) (R:=P) oN aq),⟨⟩⟩ ⟨.k zPnt (.t rfl),⟨⟩⟩ fun L v6 d az af=>?_;simp only[fzw,Kw.a];obtain⟨⟨aA,H⟩,-⟩:(v5.heap.size≤(L 7 0).2∧Vr v6 (L 7 0).2 (pnQ P))∧True:=af;clear az;replace G:=G.trans d;replace C:=C.gr d;replace f:=f.gr d;replace h:=h.gr d;replace i:=i.gr d;replace q:=q.gr d;replace x:=x.gr d;replace D:=fun k=>(D k).gr d;clear d
 go_upto_region 12 with fail
 refine wp_wS [.O,.O,.T,.T,.O,.O,.T,.T,.T,.O,.O,.T,.T,.T,.O,.O,.T,.T,.T,.c (.agg (pnQ A)),.c (.agg (pnQ A)),.T,.T,.T,.c (.agg (pnQ P)),.c (.agg (pnQ P)),.T,.T,.T] [1,5,10,15,19,20,21,24,25,26] ⟨.y (num_any _),.y (num_any _),.y (num_any _),.y (num_any _),.g 35 0 i rfl,.g 35 0 x rfl,.s (.binOp .eql 35 (.const (.agg (pnQ A))) (.const (.agg (pnQ A))) 35) rfl fun vv d=>by simp[go_sem,exI,eqPn,eqN_self],.g 35 0 H rfl,.g 35 0 f rfl,.s (.binOp .eql 35 (.const (.agg (pnQ P))) (.const (.agg (pnQ P))) 35) rfl fun vv d=>by simp[go_sem,exI,eqPn,eqN_self],⟨⟩⟩ fun aH v7 d aB=>?_;simp only[fzw];clear aB;replace G:=G.trans d;replace C:=C.gr d;replace f:=f.gr d;replace h:=h.gr d;replace i:=i.gr d;replace q:=q.gr d;replace x:=x.gr d;replace H:=H.gr d;replace D:=fun k=>(D k).gr d;clear d
 go_wp2_with fail
 go_ret
 exact⟨rfl,G⟩
end
end
end Go.Proofs.YtffhepbppiocbabGreat