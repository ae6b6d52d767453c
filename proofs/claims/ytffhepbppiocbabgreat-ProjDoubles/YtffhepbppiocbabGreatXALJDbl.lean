import Derived.Test.YtffhepbppiocbabGreatXAJH
namespace Go.Proofs.YtffhepbppiocbabGreat
open Go.RowKit Go.Proofs.Tryz
set_option maxRecDepth 100000
set_option maxHeartbeats 8000000
section
attribute [local go_sem ↓] uz1
attribute [local go_sem] uz2
section
attribute [local go_sem] uz7
attribute [local go_sem ↓] uz12 Go.wp_at_zero Go.wp_at_succ
attribute [local go_sem] uz13
attribute [local go_sem ↓] uz16
attribute [local go_sem] uz17
theorem p200(k:Nat)(h1:1≤k)(h2:k≤15):200<pN k:=by
 obtain rfl|rfl|rfl|rfl|rfl|rfl|rfl|rfl|rfl|rfl|rfl|rfl|rfl|rfl|rfl:k=1∨k=2∨k=3∨k=4∨k=5∨k=6∨k=7∨k=8∨k=9∨k=10∨k=11∨k=12∨k=13∨k=14∨k=15:=by omega
 all_goals decide +kernel
theorem ljdbl_any(id:Int)(n1 n2:Nat)(bn1:n1<18446744073709551616)(bn2:n2<18446744073709551616)(w:World):Cg 10 #[.int .i64 id,.int .u64 n1,.int .u64 n2] w (.bool true):=by
 obtain⟨u,hu,a2,hk⟩:=idx_conv id;have aB:=idx_bd id;obtain⟨k,aC⟩:=exl (idx id);rw[aC]at hk aB;obtain⟨B,C⟩:=aB
 have u0:(0:Int)≤u:=by omega
 have a3:(1:Int)+u%15=k:=by omega
 have a4:IntKind.i64.wrap ((u:Int)%15)=(u:Int)%15:=by rw[IntKind.wrap_i64];omega
 have a5:IntKind.u64.wrap ((u:Int)%15)=(u:Int)%15:=by rw[IntKind.wrap_u64];omega
 have a6:(u:Int).tmod 15=(u:Int)%15:=by rw[Int.tmod_eq_emod_of_nonneg (by omega)]
 have k0:(1:Int)≤k:=by omega
 have k1:(k:Int)≤15:=by omega
 have a7:id%18446744073709551616=(u:Int):=by rw[←hu,IntKind.wrap_u64]
 clear aC hk;have aD:Hid (∀w,Calls prog 16 #[.int .i64 k] w (GetQ k w)):=fun w=>getq_yes k B C w;have aE:Hid (∀w,Cg 30 #[] w (.bool true)):=fun w=>awake15_any w
 go_enter func10,ntmps10
 go_upto_region 4 with (first
  | (go_at_call 30;refine(aE.out _).mono ?_;rintro e WA ⟨rfl,GA⟩)
  | (go_at_call 16;refine(aD.out _).mono ?_;rintro e WB ⟨qc,rfl,HQ,GB⟩))
 obtain⟨e9,az⟩:=exl (WB.heap.size);simp only[az]
 refine gen_w (fun v=>Gr w v∧Vr v e9 (crA (k:Int) (nN k) qc)∧∀j,Sl v (qc j).1 (nN k j)) ?_ ?_
 ·subst az;exact⟨(GA.trans GB).alloc _,Vr.new _ _ _,fun j=>(HQ j).gr ((Gr.refl _).alloc _)⟩
 clear az GA GB HQ aE aD hu a2 a3 a4 a5 a6 a7 u0 k0 k1;rintro v0 ⟨G,c9,HQ⟩;obtain⟨P,hP⟩:=exl (mlQ k n1 (gQ k));have oP:OnQ k P:=hP▸mlQ_on B C _ (gQ_on B C);have bP:=bn1;obtain⟨J,aG⟩:=exl (frT P);have A:TrQ k J P:=aG▸frT_tr B C oP;obtain⟨V,aA⟩:=exl (addT k J J);obtain⟨X,hX⟩:=exl (plQ k P P);have oX:OnQ k X:=hX▸plQ_on B C oP oP;have ao:TrQ k V X:=aA▸hX▸addT_tr B C A A;obtain⟨r1,bD⟩:=exl (n2%200)
 have q1:(n2:Int).tmod 200=(r1:Int):=by rw[Int.tmod_eq_emod_of_nonneg (by omega)];omega
 obtain⟨O,hO⟩:∃O:T3,O=(0,1+r1,0):=⟨_,rfl⟩
 have q2:IntKind.u64.wrap (1+(r1:Int))=(O.2.1:Int):=by rw[hO,IntKind.wrap_u64];show _=((1+r1:Nat):Int);omega
 have lO:O.2.1<18446744073709551616:=by rw[hO];show 1+r1<_;omega
 have a8:prj 0 O.2.1 0=pjT O:=by rw[hO]
 have af:TrQ k O inf:=hO▸inf_tr B C (by have:=p200 k B C;omega) (by omega);obtain⟨A3,aH⟩:=exl (addT k O O);have aI:TrQ k A3 inf:=aH▸plQ_inf B C (inf_on k)▸addT_tr B C af af;obtain⟨A2,aJ⟩:=exl (addT k O J)
 have a9:plQ k inf P=P:=by rw[plQ_comm B C (inf_on k) oP,plQ_inf B C oP]
 have aK:TrQ k A2 P:=by have:=addT_tr B C af A;rw[aJ,a9]at this;exact this
 clear hO;refine wp_v false [.c (.agg (crA (k:Int) (nN k) qc)),.c (.int .u64 n1),.c (.tuple #[.agg (pjT J),.agg (pnQ P),.bool true]),.c (.tuple #[.agg (pjT J),.agg (pnQ P),.bool true]),.c (.agg (pjT J)),.c (.agg (pnQ P)),.T,.a,.a,.u,.u,.T] [0,2] [⟨7,9,53,prj 0 0 0,fun _=>pjT J⟩,⟨8,10,35,pnt 0 0 false,fun _=>pnQ P⟩] ⟨.g 27 0 c9 rfl,.k _ fun yy vv d hh=>RtW.of_c (Rt.c (dr_is B C bP hP aG qc _ (fun j=>(HQ j).gr d))),⟨⟩⟩ ⟨.k zPj (.t rfl),.k zPnt (.t rfl),⟨⟩⟩ fun ak v1 d h4 ba=>?_;simp only[fzw,Kw.a];obtain⟨⟨bv,D⟩,⟨bx,ap⟩,-⟩:(v0.heap.size≤(ak 7 0).2∧Vr v1 (ak 7 0).2 (pjT J))∧(v0.heap.size≤(ak 8 0).2∧Vr v1 (ak 8 0).2 (pnQ P))∧True:=ba;clear h4;have f:=d;clear d
 go_upto_region 5 with fail
 refine wp_wS [.T,.F,.F,.T,.F,.F] [] ⟨⟩ fun bE v2 d h5=>?_;simp only[fzw];clear h5;replace f:=f.trans d;have q:=d;clear d
 go_upto_region 7 with fail
 refine wp_v false [.c (pv e9 0),.c (.int .i64 k),.c (.agg (pjT J)),.E (.agg (pjT V)),.E (.agg (pjT V)),.c (.agg (pjT V)),.O,.a,.u,.O] [1,2,3] [⟨7,8,53,prj 0 0 0,fun _=>pjT V⟩] ⟨.o 3 0 (c9.gr f) rfl rfl,.g 53 0 (D.gr q) rfl,.z (jdblQ B C (T:=J) (R:=V) A aA),⟨⟩⟩ ⟨.k zPj (.t rfl),⟨⟩⟩ fun aL v3 d h7 bb=>?_;simp only[fzw,Kw.a];obtain⟨⟨bz,ag⟩,-⟩:(v2.heap.size≤(aL 7 0).2∧Vr v3 (aL 7 0).2 (pjT V))∧True:=bb;clear h7;replace f:=f.trans d;replace q:=q.trans d;clear d
 go_upto_region 8 with fail
 refine wp_v false [.c (pv e9 0),.c (.int .i64 k),.c (.agg (pjT J)),.c (.agg (pjT J)),.E (.agg (pjT V)),.E (.agg (pjT V)),.c (.agg (pjT V)),.O,.a,.u,.O] [1,2,3,4] [⟨8,9,53,prj 0 0 0,fun _=>pjT V⟩] ⟨.o 3 0 (c9.gr f) rfl rfl,.g 53 0 (D.gr q) rfl,.g 53 0 (D.gr q) rfl,.z (jaddQ B C (S:=J) (T:=J) (R:=V) A A aA),⟨⟩⟩ ⟨.k zPj (.t rfl),⟨⟩⟩ fun aM v4 d h8 bc=>?_;simp only[fzw,Kw.a];obtain⟨⟨bA,ah⟩,-⟩:(v3.heap.size≤(aM 8 0).2∧Vr v4 (aM 8 0).2 (pjT V))∧True:=bc;clear h8;replace f:=f.trans d;replace q:=q.trans d;have H:=d;clear d
 go_upto_region 9 with fail
 refine wp_v false [.c (pv e9 0),.c (.int .i64 k),.c (.agg (pjT V)),.E (.agg (pnQ X)),.E (.agg (pnQ X)),.c (.agg (pnQ X)),.O,.a,.u,.O] [1,2,3] [⟨7,8,35,pnt 0 0 false,fun _=>pnQ X⟩] ⟨.o 3 0 (c9.gr f) rfl rfl,.g 53 0 (ag.gr H) rfl,.z (toQ B C (T:=V) (Q:=X) ao),⟨⟩⟩ ⟨.k zPnt (.t rfl),⟨⟩⟩ fun aO v5 d h9 bd=>?_;simp only[fzw,Kw.a];obtain⟨⟨bB,ai⟩,-⟩:(v4.heap.size≤(aO 7 0).2∧Vr v5 (aO 7 0).2 (pnQ X))∧True:=bd;clear h9;replace f:=f.trans d;replace q:=q.trans d;replace H:=H.trans d;have K:=d;clear d
 go_upto_region 10 with fail
 refine wp_v false [.c (pv e9 0),.c (.int .i64 k),.c (.agg (pjT V)),.E (.agg (pnQ X)),.E (.agg (pnQ X)),.c (.agg (pnQ X)),.O,.a,.u,.O] [1,2,3] [⟨7,8,35,pnt 0 0 false,fun _=>pnQ X⟩] ⟨.o 3 0 (c9.gr f) rfl rfl,.g 53 0 (ah.gr K) rfl,.z (toQ B C (T:=V) (Q:=X) ao),⟨⟩⟩ ⟨.k zPnt (.t rfl),⟨⟩⟩ fun aq v6 d be aP=>?_;simp only[fzw,Kw.a];obtain⟨⟨bf,W⟩,-⟩:(v5.heap.size≤(aq 7 0).2∧Vr v6 (aq 7 0).2 (pnQ X))∧True:=aP;clear be;replace f:=f.trans d;replace q:=q.trans d;replace H:=H.trans d;replace K:=K.trans d;have h:=d;clear d
 go_upto_region 11 with fail
 refine wp_v false [.c (.int .u64 n2),.c (.int .u64 r1),.c (.int .u64 (O.2.1:Int)),.N O.2.1,.c (.agg (pjT O)),.a,.u] [1,2,3,4] [⟨5,6,53,prj 0 0 0,fun _=>pjT O⟩] ⟨.s (.binOp .rem 22 (.const (.int .u64 n2)) (.const (.int .u64 200)) 22) rfl fun vv d=>by simp[go_sem,exI,q1],.s (.binOp .add 22 (.const (.int .u64 1)) (.const (.int .u64 r1)) 22) rfl fun vv d=>by simp[go_sem,exI,q2],.z (one_any O.2.1 lO),.s (.build 53 #[(1,(.const (.agg (nw 9 O.2.1))))]) rfl fun vv d=>by simp[go_sem,exI,buildPj1,a8],⟨⟩⟩ ⟨.k zPj (.t rfl),⟨⟩⟩ fun ar v7 d bg aQ=>?_;simp only[fzw,Kw.a];obtain⟨⟨bh,L⟩,-⟩:(v6.heap.size≤(ar 5 0).2∧Vr v7 (ar 5 0).2 (pjT O))∧True:=aQ;clear bg;replace h:=h.trans d;replace f:=f.trans d;replace q:=q.trans d;replace H:=H.trans d;replace K:=K.trans d;have i:=d;clear d
 go_upto_region 12 with fail
 refine wp_v false [.c (pv e9 0),.c (.int .i64 k),.c (.agg (pjT O)),.E (.agg (pjT A3)),.E (.agg (pjT A3)),.c (.agg (pjT A3)),.O,.a,.u,.O] [1,2,3] [⟨7,8,53,prj 0 0 0,fun _=>pjT A3⟩] ⟨.o 3 0 (c9.gr f) rfl rfl,.g 53 0 L rfl,.z (jdblQ B C (T:=O) (R:=A3) af aH),⟨⟩⟩ ⟨.k zPj (.t rfl),⟨⟩⟩ fun au v8 d bi aR=>?_;simp only[fzw,Kw.a];obtain⟨⟨bj,Y⟩,-⟩:(v7.heap.size≤(au 7 0).2∧Vr v8 (au 7 0).2 (pjT A3))∧True:=aR;clear bi;replace h:=h.trans d;replace i:=i.trans d;replace f:=f.trans d;replace q:=q.trans d;replace H:=H.trans d;replace K:=K.trans d;have x:=d;clear d
 go_upto_region 13 with fail
 refine wp_v false [.c (pv e9 0),.c (.int .i64 k),.c (.agg (pjT A3)),.E (.agg (pnt 0 0 true)),.E (.agg (pnt 0 0 true)),.c (.agg (pnt 0 0 true)),.O,.a,.u,.O] [1,2,3] [⟨7,8,35,pnt 0 0 false,fun _=>pnt 0 0 true⟩] ⟨.o 3 0 (c9.gr f) rfl rfl,.g 53 0 Y rfl,.z (toQ B C (T:=A3) (Q:=inf) aI),⟨⟩⟩ ⟨.k zPnt (.t rfl),⟨⟩⟩ fun av v9 d bk aS=>?_;simp only[fzw,Kw.a];obtain⟨⟨bm,Z⟩,-⟩:(v8.heap.size≤(av 7 0).2∧Vr v9 (av 7 0).2 (pnt 0 0 true))∧True:=aS;clear bk;replace h:=h.trans d;replace i:=i.trans d;replace x:=x.trans d;replace f:=f.trans d;replace q:=q.trans d;replace H:=H.trans d;replace K:=K.trans d;have I:=d;clear d
 go_upto_region 14 with fail
 refine wp_v false [.c (pv e9 0),.c (.int .i64 k),.c (.agg (pjT O)),.c (.agg (pjT J)),.E (.agg (pjT A2)),.E (.agg (pjT A2)),.c (.agg (pjT A2)),.O,.a,.u,.O] [1,2,3,4] [⟨8,9,53,prj 0 0 0,fun _=>pjT A2⟩] ⟨.o 3 0 (c9.gr f) rfl rfl,.g 53 0 (L.gr x) rfl,.g 53 0 (D.gr q) rfl,.z (jaddQ B C (S:=O) (T:=J) (R:=A2) af A aJ),⟨⟩⟩ ⟨.k zPj (.t rfl),⟨⟩⟩ fun aw aT d bn aU=>?_;simp only[fzw,Kw.a];obtain⟨⟨bo,aa⟩,-⟩:(v9.heap.size≤(aw 8 0).2∧Vr aT (aw 8 0).2 (pjT A2))∧True:=aU;clear bn;replace h:=h.trans d;replace i:=i.trans d;replace x:=x.trans d;replace I:=I.trans d;replace f:=f.trans d;replace q:=q.trans d;replace H:=H.trans d;replace K:=K.trans d;have U:=d;clear d
 go_upto_region 15 with fail
 refine wp_v false [.c (pv e9 0),.c (.int .i64 k),.c (.agg (pjT A2)),.E (.agg (pnQ P)),.E (.agg (pnQ P)),.c (.agg (pnQ P)),.O,.a,.u,.O] [1,2,3] [⟨7,8,35,pnt 0 0 false,fun _=>pnQ P⟩] ⟨.o 3 0 (c9.gr f) rfl rfl,.g 53 0 aa rfl,.z (toQ B C (T:=A2) (Q:=P) aK),⟨⟩⟩ ⟨.k zPnt (.t rfl),⟨⟩⟩ fun ax aV d bp aW=>?_;simp only[fzw,Kw.a];obtain⟨⟨bq,ab⟩,-⟩:(aT.heap.size≤(ax 7 0).2∧Vr aV (ax 7 0).2 (pnQ P))∧True:=aW;clear bp;replace h:=h.trans d;replace i:=i.trans d;replace x:=x.trans d;replace I:=I.trans d;replace U:=U.trans d;replace f:=f.trans d;replace q:=q.trans d;replace H:=H.trans d;replace K:=K.trans d;have ae:=d;clear d
 go_upto_region 16 with fail
 refine wp_v false [.c (pv e9 0),.c (.int .i64 k),.c (.agg (pjT J)),.E (.agg (pnQ P)),.E (.agg (pnQ P)),.c (.agg (pnQ P)),.O,.a,.u,.O] [1,2,3] [⟨7,8,35,pnt 0 0 false,fun _=>pnQ P⟩] ⟨.o 3 0 (c9.gr f) rfl rfl,.g 53 0 (D.gr q) rfl,.z (toQ B C (T:=J) (Q:=P) A),⟨⟩⟩ ⟨.k zPnt (.t rfl),⟨⟩⟩ fun ay br d bs a0=>?_;simp only[fzw,Kw.a];obtain⟨⟨bt,ac⟩,-⟩:(aV.heap.size≤(ay 7 0).2∧Vr br (ay 7 0).2 (pnQ P))∧True:=a0;clear bs;replace h:=h.trans d;replace i:=i.trans d;replace x:=x.trans d;replace I:=I.trans d;replace U:=U.trans d;replace ae:=ae.trans d;replace f:=f.trans d;replace q:=q.trans d;replace H:=H.trans d;replace K:=K.trans d;have aj:=d;clear d
 go_upto_region 17 with fail
 refine wp_wS [.O,.O,.T,.T,.O,.O,.T,.T,.T,.O,.O,.T,.T,.T,.O,.O,.T,.T,.T,.O,.O,.T,.T,.T,.O,.O,.T,.T,.T,.c (.agg (pnQ X)),.c (.agg (pnQ X)),.T,.T,.T,.c (.agg (pnt 0 0 true)),.c (.agg (pnt 0 0 true)),.T,.T,.T,.c (.agg (pnQ P)),.c (.agg (pnQ P)),.T,.T,.T] [1,5,10,15,20,25,29,30,31,34,36,39,40,41] ?hs26 ?hf26
 case hs26=>
  exact⟨.y (num_any _),.y (num_any _),.y (num_any _),.y (num_any _),.y (num_any _),.y (num_any _),.g 35 0 (ai.gr h) rfl,.g 35 0 (W.gr i) rfl,.s (.binOp .eql 35 (.const (.agg (pnQ X))) (.const (.agg (pnQ X))) 35) rfl fun vv d=>by simp[go_sem,exI,eqPn,eqN_self],.g 35 0 (Z.gr U) rfl,.s (.binOp .eql 35 (.const (.agg (pnt 0 0 true))) (.const (.agg (pnt 0 0 true))) 35) rfl fun vv d=>by simp[go_sem,exI,eqPn,eqN_self],.g 35 0 (ab.gr aj) rfl,.g 35 0 ac rfl,.s (.binOp .eql 35 (.const (.agg (pnQ P))) (.const (.agg (pnQ P))) 35) rfl fun vv d=>by simp[go_sem,exI,eqPn,eqN_self],⟨⟩⟩
 intro bC bG d bu;simp only[fzw];clear bu;replace h:=h.trans d;replace i:=i.trans d;replace x:=x.trans d;replace I:=I.trans d;replace U:=U.trans d;replace ae:=ae.trans d;replace aj:=aj.trans d;replace f:=f.trans d;replace q:=q.trans d;replace H:=H.trans d;replace K:=K.trans d;have a1:=d;clear d;replace G:=G.trans f;replace c9:=c9.gr f;replace HQ:=fun k=>(HQ k).gr f;replace D:=D.gr q;replace ap:=ap.gr q;replace ag:=ag.gr H;replace ah:=ah.gr K;replace ai:=ai.gr h;replace W:=W.gr i;replace L:=L.gr x;replace Y:=Y.gr I;replace Z:=Z.gr U;replace aa:=aa.gr ae;replace ab:=ab.gr aj;replace ac:=ac.gr a1;clear h i x I U ae aj a1 f q H K
 go_wp2_with fail
 go_ret
 exact⟨rfl,G⟩
end
end
end Go.Proofs.YtffhepbppiocbabGreat