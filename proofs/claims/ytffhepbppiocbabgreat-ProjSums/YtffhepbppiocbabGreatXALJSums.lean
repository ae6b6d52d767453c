import Derived.Test.YtffhepbppiocbabGreatXAJH
namespace Go.Proofs.YtffhepbppiocbabGreat
open Go.RowKit Go.Proofs.Tryz
set_option maxRecDepth 100000
set_option maxHeartbeats 8000000
section
attribute [local go_sem ↓] uz1
attribute [local go_sem] uz2
section
attribute [local go_sem] uz7
attribute [local go_sem ↓] uz12 Go.wp_at_zero Go.wp_at_succ
attribute [local go_sem] uz13
attribute [local go_sem ↓] uz16
attribute [local go_sem] uz17
theorem ljsums_any(id:Int)(n1 n2 n3:Nat)(bn1:n1<18446744073709551616)(bn2:n2<18446744073709551616)(bn3:n3<18446744073709551616)(w:World):Cg 9 #[.int .i64 id,.int .u64 n1,.int .u64 n2,.int .u64 n3] w (.bool true):=by
 obtain⟨u,hu,a9,hk⟩:=idx_conv id;have aH:=idx_bd id;obtain⟨k,aI⟩:=exl (idx id);rw[aI]at hk aH;obtain⟨i,q⟩:=aH
 have u0:(0:Int)≤u:=by omega
 have ba:(1:Int)+u%15=k:=by omega
 have bb:IntKind.i64.wrap ((u:Int)%15)=(u:Int)%15:=by rw[IntKind.wrap_i64];omega
 have bc:IntKind.u64.wrap ((u:Int)%15)=(u:Int)%15:=by rw[IntKind.wrap_u64];omega
 have bd:(u:Int).tmod 15=(u:Int)%15:=by rw[Int.tmod_eq_emod_of_nonneg (by omega)]
 have k0:(1:Int)≤k:=by omega
 have k1:(k:Int)≤15:=by omega
 have be:id%18446744073709551616=(u:Int):=by rw[←hu,IntKind.wrap_u64]
 clear aI hk;have aJ:Hid (∀w,Calls prog 16 #[.int .i64 k] w (GetQ k w)):=fun w=>getq_yes k i q w;have aK:Hid (∀w,Cg 30 #[] w (.bool true)):=fun w=>awake15_any w
 go_enter func9,ntmps9
 go_upto_region 4 with (first
  | (go_at_call 30;refine(aK.out _).mono ?_;rintro e WA ⟨rfl,GA⟩)
  | (go_at_call 16;refine(aJ.out _).mono ?_;rintro e WB ⟨qc,rfl,HQ,GB⟩))
 obtain⟨e9,aG⟩:=exl (WB.heap.size);simp only[aG]
 refine gen_w (fun v=>Gr w v∧Vr v e9 (crA (k:Int) (nN k) qc)∧∀j,Sl v (qc j).1 (nN k j)) ?_ ?_
 ·subst aG;exact⟨(GA.trans GB).alloc _,Vr.new _ _ _,fun j=>(HQ j).gr ((Gr.refl _).alloc _)⟩
 clear aG GA GB HQ aK aJ hu a9 ba bb bc bd be u0 k0 k1;rintro v0 ⟨G,c9,HQ⟩;obtain⟨P,hP⟩:=exl (mlQ k n1 (gQ k));have oP:OnQ k P:=hP▸mlQ_on i q _ (gQ_on i q);have bP:=bn1;obtain⟨S1,aL⟩:=exl (frT P);have ac:TrQ k S1 P:=aL▸frT_tr i q oP;obtain⟨Q,hQ⟩:=exl (mlQ k n2 (gQ k));have oQ:OnQ k Q:=hQ▸mlQ_on i q _ (gQ_on i q);have bQ:=bn2;obtain⟨S2,aM⟩:=exl (frT Q);have ae:TrQ k S2 Q:=aM▸frT_tr i q oQ;obtain⟨R,hR⟩:=exl (mlQ k n3 (gQ k));have oR:OnQ k R:=hR▸mlQ_on i q _ (gQ_on i q);have bR:=bn3;obtain⟨S3,aO⟩:=exl (frT R);have af:TrQ k S3 R:=aO▸frT_tr i q oR;obtain⟨A1,aP⟩:=exl (addT k S1 S2);obtain⟨X,hX⟩:=exl (plQ k P Q);have oX:OnQ k X:=hX▸plQ_on i q oP oQ;have ak:TrQ k A1 X:=aP▸hX▸addT_tr i q ac ae;obtain⟨A2,aQ⟩:=exl (addT k A1 S3);obtain⟨Y,hY⟩:=exl (plQ k X R);have oY:OnQ k Y:=hY▸plQ_on i q oX oR;have aR:TrQ k A2 Y:=aQ▸hY▸addT_tr i q ak af;obtain⟨A3,aS⟩:=exl (addT k S2 S3);obtain⟨U,hU⟩:=exl (plQ k Q R);have oU:OnQ k U:=hU▸plQ_on i q oQ oR;have aw:TrQ k A3 U:=aS▸hU▸addT_tr i q ae af;obtain⟨A4,aT⟩:=exl (addT k A3 S1)
 have bf:plQ k U P=Y:=by rw[←hY,←hX,←hU,plQ_comm i q (plQ_on i q oQ oR) oP,plQ_assoc i q oP oQ oR]
 have aU:TrQ k A4 Y:=aT▸bf▸addT_tr i q aw ac;refine wp_v false [.c (.agg (crA (k:Int) (nN k) qc)),.c (.int .u64 n1),.c (.tuple #[.agg (pjT S1),.agg (pnQ P),.bool true]),.c (.tuple #[.agg (pjT S1),.agg (pnQ P),.bool true]),.c (.agg (pjT S1)),.c (.agg (pnQ P)),.T,.a,.a,.u,.u,.T] [0,2] [⟨7,9,53,prj 0 0 0,fun _=>pjT S1⟩,⟨8,10,35,pnt 0 0 false,fun _=>pnQ P⟩] ⟨.g 27 0 c9 rfl,.k _ fun yy vv d hh=>RtW.of_c (Rt.c (dr_is i q bP hP aL qc _ (fun j=>(HQ j).gr d))),⟨⟩⟩ ⟨.k zPj (.t rfl),.k zPnt (.t rfl),⟨⟩⟩ fun ar v1 d h4 bg=>?_;simp only[fzw,Kw.a];obtain⟨⟨bD,ag⟩,⟨bE,ao⟩,-⟩:(v0.heap.size≤(ar 7 0).2∧Vr v1 (ar 7 0).2 (pjT S1))∧(v0.heap.size≤(ar 8 0).2∧Vr v1 (ar 8 0).2 (pnQ P))∧True:=bg;clear h4;have f:=d;clear d
 go_upto_region 5 with fail
 refine wp_v false [.c (.agg (crA (k:Int) (nN k) qc)),.c (.int .u64 n2),.c (.tuple #[.agg (pjT S2),.agg (pnQ Q),.bool true]),.c (.tuple #[.agg (pjT S2),.agg (pnQ Q),.bool true]),.c (.agg (pjT S2)),.c (.agg (pnQ Q)),.T,.a,.a,.u,.u,.T] [0,2] [⟨7,9,53,prj 0 0 0,fun _=>pjT S2⟩,⟨8,10,35,pnt 0 0 false,fun _=>pnQ Q⟩] ⟨.g 27 0 (c9.gr f) rfl,.k _ fun yy vv d hh=>RtW.of_c (Rt.c (dr_is i q bQ hQ aM qc _ (fun j=>(HQ j).gr (f.trans d)))),⟨⟩⟩ ⟨.k zPj (.t rfl),.k zPnt (.t rfl),⟨⟩⟩ fun au v2 d h5 bh=>?_;simp only[fzw,Kw.a];obtain⟨⟨bG,ah⟩,⟨bH,ap⟩,-⟩:(v1.heap.size≤(au 7 0).2∧Vr v2 (au 7 0).2 (pjT S2))∧(v1.heap.size≤(au 8 0).2∧Vr v2 (au 8 0).2 (pnQ Q))∧True:=bh;clear h5;replace f:=f.trans d;have A:=d;clear d
 go_upto_region 6 with fail
 refine wp_v false [.c (.agg (crA (k:Int) (nN k) qc)),.c (.int .u64 n3),.c (.tuple #[.agg (pjT S3),.agg (pnQ R),.bool true]),.c (.tuple #[.agg (pjT S3),.agg (pnQ R),.bool true]),.c (.agg (pjT S3)),.c (.agg (pnQ R)),.T,.a,.a,.u,.u,.T] [0,2] [⟨7,9,53,prj 0 0 0,fun _=>pjT S3⟩,⟨8,10,35,pnt 0 0 false,fun _=>pnQ R⟩] ⟨.g 27 0 (c9.gr f) rfl,.k _ fun yy vv d hh=>RtW.of_c (Rt.c (dr_is i q bR hR aO qc _ (fun j=>(HQ j).gr (f.trans d)))),⟨⟩⟩ ⟨.k zPj (.t rfl),.k zPnt (.t rfl),⟨⟩⟩ fun av v3 d h6 bi=>?_;simp only[fzw,Kw.a];obtain⟨⟨bI,ai⟩,⟨bJ,ax⟩,-⟩:(v2.heap.size≤(av 7 0).2∧Vr v3 (av 7 0).2 (pjT S3))∧(v2.heap.size≤(av 8 0).2∧Vr v3 (av 8 0).2 (pnQ R))∧True:=bi;clear h6;replace f:=f.trans d;replace A:=A.trans d;have B:=d;clear d
 go_upto_region 7 with fail
 refine wp_wS [.T,.F,.F,.T,.F,.F,.F,.T,.F,.F,.F,.T,.F,.F] [] ⟨⟩ fun bM v4 d h7=>?_;simp only[fzw];clear h7;replace f:=f.trans d;replace A:=A.trans d;replace B:=B.trans d;have D:=d;clear d
 go_upto_region 9 with fail
 refine wp_v false [.c (pv e9 0),.c (.int .i64 k),.c (.agg (pjT S1)),.c (.agg (pjT S2)),.E (.agg (pjT A1)),.E (.agg (pjT A1)),.c (.agg (pjT A1)),.O,.a,.u,.O] [1,2,3,4] [⟨8,9,53,prj 0 0 0,fun _=>pjT A1⟩] ⟨.o 3 0 (c9.gr f) rfl rfl,.g 53 0 (ag.gr A) rfl,.g 53 0 (ah.gr B) rfl,.z (jaddQ i q (S:=S1) (T:=S2) (R:=A1) ac ae aP),⟨⟩⟩ ⟨.k zPj (.t rfl),⟨⟩⟩ fun aV v5 d h9 bj=>?_;simp only[fzw,Kw.a];obtain⟨⟨bK,aj⟩,-⟩:(v4.heap.size≤(aV 8 0).2∧Vr v5 (aV 8 0).2 (pjT A1))∧True:=bj;clear h9;replace f:=f.trans d;replace A:=A.trans d;replace B:=B.trans d;replace D:=D.trans d;clear d
 go_upto_region 10 with fail
 refine wp_v false [.c (pv e9 0),.c (.int .i64 k),.c (.agg (pjT A1)),.c (.agg (pjT S3)),.E (.agg (pjT A2)),.E (.agg (pjT A2)),.c (.agg (pjT A2)),.O,.a,.u,.O] [1,2,3,4] [⟨8,9,53,prj 0 0 0,fun _=>pjT A2⟩] ⟨.o 3 0 (c9.gr f) rfl rfl,.g 53 0 aj rfl,.g 53 0 (ai.gr D) rfl,.z (jaddQ i q (S:=A1) (T:=S3) (R:=A2) ak af aQ),⟨⟩⟩ ⟨.k zPj (.t rfl),⟨⟩⟩ fun ay v6 d bk aW=>?_;simp only[fzw,Kw.a];obtain⟨⟨bm,J⟩,-⟩:(v5.heap.size≤(ay 8 0).2∧Vr v6 (ay 8 0).2 (pjT A2))∧True:=aW;clear bk;replace f:=f.trans d;replace A:=A.trans d;replace B:=B.trans d;replace D:=D.trans d;have h:=d;clear d
 go_upto_region 11 with fail
 refine wp_v false [.c (pv e9 0),.c (.int .i64 k),.c (.agg (pjT S2)),.c (.agg (pjT S3)),.E (.agg (pjT A3)),.E (.agg (pjT A3)),.c (.agg (pjT A3)),.O,.a,.u,.O] [1,2,3,4] [⟨8,9,53,prj 0 0 0,fun _=>pjT A3⟩] ⟨.o 3 0 (c9.gr f) rfl rfl,.g 53 0 (ah.gr B) rfl,.g 53 0 (ai.gr D) rfl,.z (jaddQ i q (S:=S2) (T:=S3) (R:=A3) ae af aS),⟨⟩⟩ ⟨.k zPj (.t rfl),⟨⟩⟩ fun az v7 d bn a0=>?_;simp only[fzw,Kw.a];obtain⟨⟨bo,K⟩,-⟩:(v6.heap.size≤(az 8 0).2∧Vr v7 (az 8 0).2 (pjT A3))∧True:=a0;clear bn;replace h:=h.trans d;replace f:=f.trans d;replace A:=A.trans d;replace B:=B.trans d;replace D:=D.trans d;have x:=d;clear d
 go_upto_region 12 with fail
 refine wp_v false [.c (pv e9 0),.c (.int .i64 k),.c (.agg (pjT A3)),.c (.agg (pjT S1)),.E (.agg (pjT A4)),.E (.agg (pjT A4)),.c (.agg (pjT A4)),.O,.a,.u,.O] [1,2,3,4] [⟨8,9,53,prj 0 0 0,fun _=>pjT A4⟩] ⟨.o 3 0 (c9.gr f) rfl rfl,.g 53 0 K rfl,.g 53 0 (ag.gr A) rfl,.z (jaddQ i q (S:=A3) (T:=S1) (R:=A4) aw ac aT),⟨⟩⟩ ⟨.k zPj (.t rfl),⟨⟩⟩ fun aA v8 d bp a1=>?_;simp only[fzw,Kw.a];obtain⟨⟨bq,L⟩,-⟩:(v7.heap.size≤(aA 8 0).2∧Vr v8 (aA 8 0).2 (pjT A4))∧True:=a1;clear bp;replace h:=h.trans d;replace x:=x.trans d;replace f:=f.trans d;replace A:=A.trans d;replace B:=B.trans d;replace D:=D.trans d;have C:=d;clear d
 go_upto_region 13 with fail
 refine wp_v false [.c (pv e9 0),.c (.int .i64 k),.c (.agg (pjT A2)),.E (.agg (pnQ Y)),.E (.agg (pnQ Y)),.c (.agg (pnQ Y)),.O,.a,.u,.O] [1,2,3] [⟨7,8,35,pnt 0 0 false,fun _=>pnQ Y⟩] ⟨.o 3 0 (c9.gr f) rfl rfl,.g 53 0 (J.gr x) rfl,.z (toQ i q (T:=A2) (Q:=Y) aR),⟨⟩⟩ ⟨.k zPnt (.t rfl),⟨⟩⟩ fun aB v9 d br a2=>?_;simp only[fzw,Kw.a];obtain⟨⟨bs,V⟩,-⟩:(v8.heap.size≤(aB 7 0).2∧Vr v9 (aB 7 0).2 (pnQ Y))∧True:=a2;clear br;replace h:=h.trans d;replace x:=x.trans d;replace C:=C.trans d;replace f:=f.trans d;replace A:=A.trans d;replace B:=B.trans d;replace D:=D.trans d;have H:=d;clear d
 go_upto_region 14 with fail
 refine wp_v false [.c (pv e9 0),.c (.int .i64 k),.c (.agg (pjT A4)),.E (.agg (pnQ Y)),.E (.agg (pnQ Y)),.c (.agg (pnQ Y)),.O,.a,.u,.O] [1,2,3] [⟨7,8,35,pnt 0 0 false,fun _=>pnQ Y⟩] ⟨.o 3 0 (c9.gr f) rfl rfl,.g 53 0 (L.gr H) rfl,.z (toQ i q (T:=A4) (Q:=Y) aU),⟨⟩⟩ ⟨.k zPnt (.t rfl),⟨⟩⟩ fun aC a3 d bt a4=>?_;simp only[fzw,Kw.a];obtain⟨⟨bu,W⟩,-⟩:(v9.heap.size≤(aC 7 0).2∧Vr a3 (aC 7 0).2 (pnQ Y))∧True:=a4;clear bt;replace h:=h.trans d;replace x:=x.trans d;replace C:=C.trans d;replace H:=H.trans d;replace f:=f.trans d;replace A:=A.trans d;replace B:=B.trans d;replace D:=D.trans d;have I:=d;clear d
 go_upto_region 15 with fail
 refine wp_v false [.c (pv e9 0),.c (.int .i64 k),.c (.agg (pjT A1)),.E (.agg (pnQ X)),.E (.agg (pnQ X)),.c (.agg (pnQ X)),.O,.a,.u,.O] [1,2,3] [⟨7,8,35,pnt 0 0 false,fun _=>pnQ X⟩] ⟨.o 3 0 (c9.gr f) rfl rfl,.g 53 0 (aj.gr h) rfl,.z (toQ i q (T:=A1) (Q:=X) ak),⟨⟩⟩ ⟨.k zPnt (.t rfl),⟨⟩⟩ fun aD a5 d bv a6=>?_;simp only[fzw,Kw.a];obtain⟨⟨bx,Z⟩,-⟩:(a3.heap.size≤(aD 7 0).2∧Vr a5 (aD 7 0).2 (pnQ X))∧True:=a6;clear bv;replace h:=h.trans d;replace x:=x.trans d;replace C:=C.trans d;replace H:=H.trans d;replace I:=I.trans d;replace f:=f.trans d;replace A:=A.trans d;replace B:=B.trans d;replace D:=D.trans d;have aa:=d;clear d
 go_upto_region 16 with fail
 refine wp_v false [.c (pv e9 0),.c (.int .i64 k),.c (.agg (pnQ P)),.c (.agg (pnQ Q)),.E (.agg (pnQ X)),.E (.agg (pnQ X)),.c (.agg (pnQ X)),.O,.a,.u,.O] [1,2,3,4] [⟨8,9,35,pnt 0 0 false,fun _=>pnQ X⟩] ⟨.o 3 0 (c9.gr f) rfl rfl,.g 35 0 (ao.gr A) rfl,.g 35 0 (ap.gr B) rfl,.z (addQ i q (P:=P) (Q:=Q) (R:=X) oP oQ hX),⟨⟩⟩ ⟨.k zPnt (.t rfl),⟨⟩⟩ fun aE bz d bA a7=>?_;simp only[fzw,Kw.a];obtain⟨⟨bB,ab⟩,-⟩:(a5.heap.size≤(aE 8 0).2∧Vr bz (aE 8 0).2 (pnQ X))∧True:=a7;clear bA;replace h:=h.trans d;replace x:=x.trans d;replace C:=C.trans d;replace H:=H.trans d;replace I:=I.trans d;replace aa:=aa.trans d;replace f:=f.trans d;replace A:=A.trans d;replace B:=B.trans d;replace D:=D.trans d;have aq:=d;clear d
 go_upto_region 17 with fail
 refine wp_wS [.O,.O,.T,.T,.O,.O,.T,.T,.T,.O,.O,.T,.T,.T,.O,.O,.T,.T,.T,.c (.agg (pnQ Y)),.c (.agg (pnQ Y)),.T,.T,.T,.c (.agg (pnQ X)),.c (.agg (pnQ X)),.T,.T,.T] [1,5,10,15,19,20,21,24,25,26] ⟨.y (num_any _),.y (num_any _),.y (num_any _),.y (num_any _),.g 35 0 (V.gr I) rfl,.g 35 0 (W.gr aa) rfl,.s (.binOp .eql 35 (.const (.agg (pnQ Y))) (.const (.agg (pnQ Y))) 35) rfl fun vv d=>by simp[go_sem,exI,eqPn,eqN_self],.g 35 0 (Z.gr aq) rfl,.g 35 0 ab rfl,.s (.binOp .eql 35 (.const (.agg (pnQ X))) (.const (.agg (pnQ X))) 35) rfl fun vv d=>by simp[go_sem,exI,eqPn,eqN_self],⟨⟩⟩ fun bL bO d bC=>?_;simp only[fzw];clear bC;replace h:=h.trans d;replace x:=x.trans d;replace C:=C.trans d;replace H:=H.trans d;replace I:=I.trans d;replace aa:=aa.trans d;replace aq:=aq.trans d;replace f:=f.trans d;replace A:=A.trans d;replace B:=B.trans d;replace D:=D.trans d;have a8:=d;clear d;replace G:=G.trans f;replace c9:=c9.gr f;replace HQ:=fun k=>(HQ k).gr f;replace ag:=ag.gr A;replace ao:=ao.gr A;replace ah:=ah.gr B;replace ap:=ap.gr B;replace ai:=ai.gr D;replace ax:=ax.gr D;replace aj:=aj.gr h;replace J:=J.gr x;replace K:=K.gr C;replace L:=L.gr H;replace V:=V.gr I;replace W:=W.gr aa;replace Z:=Z.gr aq;replace ab:=ab.gr a8;clear h x C H I aa aq a8 f A B D
 go_wp2_with fail
 go_ret
 exact⟨rfl,G⟩
end
end
end Go.Proofs.YtffhepbppiocbabGreat