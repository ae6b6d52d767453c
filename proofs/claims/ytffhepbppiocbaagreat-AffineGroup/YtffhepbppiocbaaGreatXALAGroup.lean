import Derived.Test.YtffhepbppiocbaaGreatXAAS
namespace Go.Proofs.YtffhepbppiocbaaGreat
open Go.RowKit Go.Proofs.Tryz
set_option maxRecDepth 100000
set_option maxHeartbeats 8000000
section
attribute [local go_sem ↓] uz1
attribute [local go_sem] uz2
section
attribute [local go_sem] uz7
attribute [local go_sem ↓] uz12 Go.wp_at_zero Go.wp_at_succ
attribute [local go_sem] uz13
theorem lagroup_any(id:Int)(n1 n2 n3:Nat)(bn1:n1<18446744073709551616)(bn2:n2<18446744073709551616)(bn3:n3<18446744073709551616)(w:World):Cg 6 #[.int .i64 id,.int .u64 n1,.int .u64 n2,.int .u64 n3] w (.bool true):=by
 obtain⟨u,hu,ay,hk⟩:=idx_conv id;have ah:=idx_bd id;obtain⟨k,ai⟩:=exl (idx id);rw[ai]at hk ah;obtain⟨J,K⟩:=ah
 have u0:(0:Int)≤u:=by omega
 have az:(1:Int)+u%15=k:=by omega
 have aA:IntKind.i64.wrap ((u:Int)%15)=(u:Int)%15:=by rw[IntKind.wrap_i64];omega
 have aB:IntKind.u64.wrap ((u:Int)%15)=(u:Int)%15:=by rw[IntKind.wrap_u64];omega
 have aC:(u:Int).tmod 15=(u:Int)%15:=by rw[Int.tmod_eq_emod_of_nonneg (by omega)]
 have k0:(1:Int)≤k:=by omega
 have k1:(k:Int)≤15:=by omega
 have aD:id%18446744073709551616=(u:Int):=by rw[←hu,IntKind.wrap_u64]
 clear ai hk;have aj:Hid (∀w,Calls prog 9 #[.int .i64 k] w (GetQ k w)):=fun w=>getq_yes k J K w;have ak:Hid (∀w,Cg 13 #[] w (.bool true)):=fun w=>awake14_any w
 go_enter func6,ntmps6
 go_upto_region 6 with (first
  | (go_at_call 13;refine(ak.out _).mono ?_;rintro e WA ⟨rfl,GA⟩)
  | (go_at_call 9;refine(aj.out _).mono ?_;rintro e WB ⟨Z,rfl,I,GB⟩))
 obtain⟨W,ag⟩:=exl (WB.heap.size);simp only[ag]
 refine gen_w (fun v=>Gr w v∧Vr v W (crA (k:Int) (nN k) Z)∧∀j,Sl v (Z j).1 (nN k j)) ?_ ?_
 ·subst ag;exact⟨(GA.trans GB).alloc _,Vr.new _ _ _,fun j=>(I j).gr ((Gr.refl _).alloc _)⟩
 clear ag GA GB I ak aj hu ay az aA aB aC aD u0 k0 k1;rintro v0 ⟨G,D,I⟩;obtain⟨P,hP⟩:=exl (mlQ k n1 (gQ k));have V:OnQ k P:=hP▸mlQ_on J K _ (gQ_on J K);have bP:=bn1;obtain⟨Q,hQ⟩:=exl (mlQ k n2 (gQ k));have oQ:OnQ k Q:=hQ▸mlQ_on J K _ (gQ_on J K);have bQ:=bn2;obtain⟨R,hR⟩:=exl (mlQ k n3 (gQ k));have oR:OnQ k R:=hR▸mlQ_on J K _ (gQ_on J K);have bR:=bn3;obtain⟨A,hA⟩:=exl (plQ k P Q);have oA:OnQ k A:=hA▸plQ_on J K V oQ;obtain⟨Y,hY⟩:=exl (plQ k Q R);have oY:OnQ k Y:=hY▸plQ_on J K oQ oR;obtain⟨X,hX⟩:=exl (plQ k A R);obtain⟨N,hN⟩:=exl (ngQ k P);have oN:OnQ k N:=hN▸ngQ_on J K V
 have aE:plQ k P Y=X:=by rw[←hX,←hY,←hA,plQ_assoc J K V oQ oR]
 have aG:plQ k P N=inf:=by rw[←hN,plQ_ng J K]
 refine wp_v true [.c (.agg (crA (k:Int) (nN k) Z)),.c (.int .u64 n1),.c (.agg (pnQ P)),.c (.agg (crA (k:Int) (nN k) Z)),.c (.int .u64 n2),.c (.agg (pnQ Q)),.c (.agg (crA (k:Int) (nN k) Z)),.c (.int .u64 n3),.c (.agg (pnQ R)),.a,.a,.a,.u,.u,.u] [0,2,3,5,6,8] [⟨9,12,27,pnt 0 0 false,fun _=>pnQ P⟩,⟨10,13,27,pnt 0 0 false,fun _=>pnQ Q⟩,⟨11,14,27,pnt 0 0 false,fun _=>pnQ R⟩] ⟨.g 31 0 D rfl,.k _ fun yy vv d hh=>RtW.of_c (Rt.c (some_is J K bP hP Z _ (fun j=>(I j).gr d))),.g 31 0 D rfl,.k _ fun yy vv d hh=>RtW.of_c (Rt.c (some_is J K bQ hQ Z _ (fun j=>(I j).gr d))),.g 31 0 D rfl,.k _ fun yy vv d hh=>RtW.of_c (Rt.c (some_is J K bR hR Z _ (fun j=>(I j).gr d))),⟨⟩⟩ ⟨.k zPnt (.t rfl),.k zPnt (.t rfl),.k zPnt (.t rfl),⟨⟩⟩ fun U v1 d h6 aH=>?_;simp only[fzw,Kw.a];obtain⟨⟨a2,i⟩,⟨aI,f⟩,⟨aJ,h⟩,-⟩:(v0.heap.size≤(U 9 0).2∧Vr v1 (U 9 0).2 (pnQ P))∧(v0.heap.size≤(U 10 0).2∧Vr v1 (U 10 0).2 (pnQ Q))∧(v0.heap.size≤(U 11 0).2∧Vr v1 (U 11 0).2 (pnQ R))∧True:=aH;clear h6;replace G:=G.trans d;replace D:=D.gr d;replace I:=fun k=>(I k).gr d;clear d
 go_upto_region 7 with fail
 refine wp_v false [.c (pv W 0),.c (.int .i64 k),.c (.agg (pnQ P)),.c (.agg (pnQ Q)),.E (.agg (pnQ A)),.E (.agg (pnQ A)),.c (.agg (pnQ A)),.O,.a,.u,.O] [1,2,3,4] [⟨8,9,27,pnt 0 0 false,fun _=>pnQ A⟩] ⟨.o 3 0 D rfl rfl,.g 27 0 i rfl,.g 27 0 f rfl,.z (addQ J K (P:=P) (Q:=Q) (R:=A) V oQ hA),⟨⟩⟩ ⟨.k zPnt (.t rfl),⟨⟩⟩ fun ao v2 d h7 aK=>?_;simp only[fzw,Kw.a];obtain⟨⟨a3,l⟩,-⟩:(v1.heap.size≤(ao 8 0).2∧Vr v2 (ao 8 0).2 (pnQ A))∧True:=aK;clear h7;replace G:=G.trans d;replace D:=D.gr d;replace i:=i.gr d;replace f:=f.gr d;replace h:=h.gr d;replace I:=fun k=>(I k).gr d;clear d
 go_upto_region 8 with fail
 refine wp_v false [.c (pv W 0),.c (.int .i64 k),.c (.agg (pnQ Q)),.c (.agg (pnQ P)),.E (.agg (pnQ A)),.E (.agg (pnQ A)),.c (.agg (pnQ A)),.O,.a,.u,.O] [1,2,3,4] [⟨8,9,27,pnt 0 0 false,fun _=>pnQ A⟩] ⟨.o 3 0 D rfl rfl,.g 27 0 f rfl,.g 27 0 i rfl,.z (addQ J K (P:=Q) (Q:=P) (R:=A) oQ V ((plQ_comm J K oQ V).trans hA)),⟨⟩⟩ ⟨.k zPnt (.t rfl),⟨⟩⟩ fun ap v3 d h8 aL=>?_;simp only[fzw,Kw.a];obtain⟨⟨a4,q⟩,-⟩:(v2.heap.size≤(ap 8 0).2∧Vr v3 (ap 8 0).2 (pnQ A))∧True:=aL;clear h8;replace G:=G.trans d;replace D:=D.gr d;replace i:=i.gr d;replace f:=f.gr d;replace h:=h.gr d;replace l:=l.gr d;replace I:=fun k=>(I k).gr d;clear d
 go_upto_region 9 with fail
 refine wp_v false [.c (pv W 0),.c (.int .i64 k),.c (.agg (pnQ A)),.c (.agg (pnQ R)),.E (.agg (pnQ X)),.E (.agg (pnQ X)),.c (.agg (pnQ X)),.O,.a,.u,.O] [1,2,3,4] [⟨8,9,27,pnt 0 0 false,fun _=>pnQ X⟩] ⟨.o 3 0 D rfl rfl,.g 27 0 l rfl,.g 27 0 h rfl,.z (addQ J K (P:=A) (Q:=R) (R:=X) oA oR hX),⟨⟩⟩ ⟨.k zPnt (.t rfl),⟨⟩⟩ fun aq v4 d h9 aM=>?_;simp only[fzw,Kw.a];obtain⟨⟨a5,B⟩,-⟩:(v3.heap.size≤(aq 8 0).2∧Vr v4 (aq 8 0).2 (pnQ X))∧True:=aM;clear h9;replace G:=G.trans d;replace D:=D.gr d;replace i:=i.gr d;replace f:=f.gr d;replace h:=h.gr d;replace l:=l.gr d;replace q:=q.gr d;replace I:=fun k=>(I k).gr d;clear d
 go_upto_region 10 with fail
 refine wp_v false [.c (pv W 0),.c (.int .i64 k),.c (.agg (pnQ Q)),.c (.agg (pnQ R)),.E (.agg (pnQ Y)),.E (.agg (pnQ Y)),.c (.agg (pnQ Y)),.O,.a,.u,.O] [1,2,3,4] [⟨8,9,27,pnt 0 0 false,fun _=>pnQ Y⟩] ⟨.o 3 0 D rfl rfl,.g 27 0 f rfl,.g 27 0 h rfl,.z (addQ J K (P:=Q) (Q:=R) (R:=Y) oQ oR hY),⟨⟩⟩ ⟨.k zPnt (.t rfl),⟨⟩⟩ fun aa v5 d aO ar=>?_;simp only[fzw,Kw.a];obtain⟨⟨aP,x⟩,-⟩:(v4.heap.size≤(aa 8 0).2∧Vr v5 (aa 8 0).2 (pnQ Y))∧True:=ar;clear aO;replace G:=G.trans d;replace D:=D.gr d;replace i:=i.gr d;replace f:=f.gr d;replace h:=h.gr d;replace l:=l.gr d;replace q:=q.gr d;replace B:=B.gr d;replace I:=fun k=>(I k).gr d;clear d
 go_upto_region 11 with fail
 refine wp_v false [.c (pv W 0),.c (.int .i64 k),.c (.agg (pnQ P)),.c (.agg (pnQ Y)),.E (.agg (pnQ X)),.E (.agg (pnQ X)),.c (.agg (pnQ X)),.O,.a,.u,.O] [1,2,3,4] [⟨8,9,27,pnt 0 0 false,fun _=>pnQ X⟩] ⟨.o 3 0 D rfl rfl,.g 27 0 i rfl,.g 27 0 x rfl,.z (addQ J K (P:=P) (Q:=Y) (R:=X) V oY aE),⟨⟩⟩ ⟨.k zPnt (.t rfl),⟨⟩⟩ fun ab v6 d aQ au=>?_;simp only[fzw,Kw.a];obtain⟨⟨aR,C⟩,-⟩:(v5.heap.size≤(ab 8 0).2∧Vr v6 (ab 8 0).2 (pnQ X))∧True:=au;clear aQ;replace G:=G.trans d;replace D:=D.gr d;replace i:=i.gr d;replace f:=f.gr d;replace h:=h.gr d;replace l:=l.gr d;replace q:=q.gr d;replace B:=B.gr d;replace x:=x.gr d;replace I:=fun k=>(I k).gr d;clear d
 go_upto_region 12 with fail
 refine wp_v false [.c (pv W 0),.c (.int .i64 k),.c (.agg (pnQ P)),.E (.agg (pnQ N)),.E (.agg (pnQ N)),.c (.agg (pnQ N)),.O,.a,.u,.O] [1,2,3] [⟨7,8,27,pnt 0 0 false,fun _=>pnQ N⟩] ⟨.o 3 0 D rfl rfl,.g 27 0 i rfl,.z (negQ J K (P:=P) (R:=N) V hN),⟨⟩⟩ ⟨.k zPnt (.t rfl),⟨⟩⟩ fun ac v7 d aS av=>?_;simp only[fzw,Kw.a];obtain⟨⟨aT,H⟩,-⟩:(v6.heap.size≤(ac 7 0).2∧Vr v7 (ac 7 0).2 (pnQ N))∧True:=av;clear aS;replace G:=G.trans d;replace D:=D.gr d;replace i:=i.gr d;replace f:=f.gr d;replace h:=h.gr d;replace l:=l.gr d;replace q:=q.gr d;replace B:=B.gr d;replace x:=x.gr d;replace C:=C.gr d;replace I:=fun k=>(I k).gr d;clear d
 go_upto_region 13 with fail
 refine wp_v false [.c (pv W 0),.c (.int .i64 k),.c (.agg (pnQ P)),.c (.agg (pnQ N)),.E (.agg (pnt 0 0 true)),.E (.agg (pnt 0 0 true)),.c (.agg (pnt 0 0 true)),.O,.a,.u,.O] [1,2,3,4] [⟨8,9,27,pnt 0 0 false,fun _=>pnt 0 0 true⟩] ⟨.o 3 0 D rfl rfl,.g 27 0 i rfl,.g 27 0 H rfl,.z (addQ J K (P:=P) (Q:=N) (R:=inf) V oN aG),⟨⟩⟩ ⟨.k zPnt (.t rfl),⟨⟩⟩ fun ae v8 d aU aw=>?_;simp only[fzw,Kw.a];obtain⟨⟨aV,L⟩,-⟩:(v7.heap.size≤(ae 8 0).2∧Vr v8 (ae 8 0).2 (pnt 0 0 true))∧True:=aw;clear aU;replace G:=G.trans d;replace D:=D.gr d;replace i:=i.gr d;replace f:=f.gr d;replace h:=h.gr d;replace l:=l.gr d;replace q:=q.gr d;replace B:=B.gr d;replace x:=x.gr d;replace C:=C.gr d;replace H:=H.gr d;replace I:=fun k=>(I k).gr d;clear d
 go_upto_region 14 with fail
 refine wp_v false [.c (pv W 0),.c (.int .i64 k),.c (.agg (pnQ P)),.c (.agg (pnt 0 0 true)),.E (.agg (pnQ P)),.E (.agg (pnQ P)),.c (.agg (pnQ P)),.O,.a,.u,.O] [1,2,4] [⟨8,9,27,pnt 0 0 false,fun _=>pnQ P⟩] ⟨.o 3 0 D rfl rfl,.g 27 0 i rfl,.z (addQ J K (P:=P) (Q:=inf) (R:=P) V (inf_on k) (plQ_inf J K V)),⟨⟩⟩ ⟨.k zPnt (.t rfl),⟨⟩⟩ fun af v9 d aW ax=>?_;simp only[fzw,Kw.a];obtain⟨⟨a0,S⟩,-⟩:(v8.heap.size≤(af 8 0).2∧Vr v9 (af 8 0).2 (pnQ P))∧True:=ax;clear aW;replace G:=G.trans d;replace D:=D.gr d;replace i:=i.gr d;replace f:=f.gr d;replace h:=h.gr d;replace l:=l.gr d;replace q:=q.gr d;replace B:=B.gr d;replace x:=x.gr d;replace C:=C.gr d;replace H:=H.gr d;replace L:=L.gr d;replace I:=fun k=>(I k).gr d;clear d
 go_upto_region 15 with fail
 refine wp_wS [.O,.O,.T,.T,.O,.O,.T,.T,.T,.O,.O,.T,.T,.T,.O,.O,.T,.T,.T,.c (.agg (pnQ A)),.c (.agg (pnQ A)),.T,.T,.T,.c (.agg (pnQ X)),.c (.agg (pnQ X)),.T,.T,.T,.c (.agg (pnt 0 0 true)),.c (.agg (pnt 0 0 true)),.T,.T,.T,.c (.agg (pnQ P)),.c (.agg (pnQ P)),.T,.T,.T] [1,5,10,15,19,20,21,24,25,26,29,31,34,35,36] ?hs10 ?hf10
 case hs10=>
  exact⟨.y (num_any _),.y (num_any _),.y (num_any _),.y (num_any _),.g 27 0 l rfl,.g 27 0 q rfl,.s (.binOp .eql 27 (.const (.agg (pnQ A))) (.const (.agg (pnQ A))) 27) rfl fun vv d=>by simp[go_sem,exI,eqPn,eqN_self],.g 27 0 B rfl,.g 27 0 C rfl,.s (.binOp .eql 27 (.const (.agg (pnQ X))) (.const (.agg (pnQ X))) 27) rfl fun vv d=>by simp[go_sem,exI,eqPn,eqN_self],.g 27 0 L rfl,.s (.binOp .eql 27 (.const (.agg (pnt 0 0 true))) (.const (.agg (pnt 0 0 true))) 27) rfl fun vv d=>by simp[go_sem,exI,eqPn,eqN_self],.g 27 0 S rfl,.g 27 0 i rfl,.s (.binOp .eql 27 (.const (.agg (pnQ P))) (.const (.agg (pnQ P))) 27) rfl fun vv d=>by simp[go_sem,exI,eqPn,eqN_self],⟨⟩⟩
 intro a6 a7 d a1;simp only[fzw];clear a1;replace G:=G.trans d;replace D:=D.gr d;replace i:=i.gr d;replace f:=f.gr d;replace h:=h.gr d;replace l:=l.gr d;replace q:=q.gr d;replace B:=B.gr d;replace x:=x.gr d;replace C:=C.gr d;replace H:=H.gr d;replace L:=L.gr d;replace S:=S.gr d;replace I:=fun k=>(I k).gr d;clear d
 go_wp2_with fail
 go_ret
 exact⟨rfl,G⟩
end
end
end Go.Proofs.YtffhepbppiocbaaGreat