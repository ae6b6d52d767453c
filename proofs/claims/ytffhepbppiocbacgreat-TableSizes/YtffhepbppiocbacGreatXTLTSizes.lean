import Derived.Test.YtffhepbppiocbacGreatXTUF
namespace Go.Proofs.YtffhepbppiocbacGreat
open Go.RowKit Go.Proofs.Tryz
set_option maxRecDepth 100000
set_option maxHeartbeats 8000000
section
attribute [local go_sem ↓] uz1
attribute [local go_sem] uz2
section
attribute [local go_sem] uz7
attribute [local go_sem ↓] uz12 Go.wp_at_zero Go.wp_at_succ
attribute [local go_sem] uz13
theorem ltsizes_0(id:Int)(x:Int)(x1:x<1)(y:Int)(w:World):Cg 4 #[.int .i64 id,.int .i64 x,.int .i64 y] w (.bool true):=by
 obtain⟨u,hu,ah,hk⟩:=idx_conv id;have Y:=idx_bd id;obtain⟨k,aa⟩:=exl (idx id);rw[aa]at hk Y;obtain⟨U,V⟩:=Y
 have u0:(0:Int)≤u:=by omega
 have ai:(1:Int)+u%15=k:=by omega
 have aj:IntKind.i64.wrap ((u:Int)%15)=(u:Int)%15:=by rw[IntKind.wrap_i64];omega
 have ak:IntKind.u64.wrap ((u:Int)%15)=(u:Int)%15:=by rw[IntKind.wrap_u64];omega
 have ao:(u:Int).tmod 15=(u:Int)%15:=by rw[Int.tmod_eq_emod_of_nonneg (by omega)]
 have k0:(1:Int)≤k:=by omega
 have k1:(k:Int)≤15:=by omega
 have ap:id%18446744073709551616=(u:Int):=by rw[←hu,IntKind.wrap_u64]
 clear aa hk;have ab:Hid _:=getq_yes k U V;have ac:Hid _:=awake16_any
 go_enter func4,ntmps4
 go_upto_region 4 with (first
  | (go_at_call 15;refine(ac.out _).mono ?_;rintro e WA ⟨rfl,GA⟩)
  | (go_at_call 16;refine(ab.out _).mono ?_;rintro e WB ⟨qc,rfl,W,GB⟩))
 obtain⟨e9,Q⟩:=exl (WB.heap.size);simp only[Q]
 refine gen_w (fun v=>Gr w v∧Vr v e9 (crA (k:Int) (nN k) qc)∧∀j,Sl v (qc j).1 (nN k j)) ?_ ?_
 ·subst Q;exact⟨(GA.trans GB).alloc _,Vr.new _ _ _,fun j=>(W j).gr ((Gr.refl _).alloc _)⟩
 clear Q GA GB W ac ab hu ah ai aj ak ao ap u0 k0 k1;rintro v0 ⟨G,c9,W⟩;obtain⟨P,hP⟩:=exl (gQ k);have oP:OnQ k P:=hP▸gQ_on U V;have hx:x<1∨16<x:=Or.inl x1;refine wp_v false [.c (.agg (crA (k:Int) (nN k) qc)),.pt (P.1) (P.2.1) P.2.2,.c (.agg (pnQ P)),.a,.u] [0,1,2] [⟨3,4,35,pnt 0 0 false,fun _=>pnQ P⟩] ⟨.g 27 0 c9 rfl,.k _ fun J S d X=>RtW.of_pt (rgQ hP qc _ (fun j=>(W j).gr d)),.k (fun J =>#[.agg (ptA (J 1 0).1 (P.1) (J 1 0).2 (J 1 1).1 (P.2.1) (J 1 1).2 P.2.2)]) fun J S d X=>RtW.of_c (Rt.c (rout_any _ _ _ _ _ _ _ _ (X 1 rfl).1 (X 1 rfl).2)),⟨⟩⟩ ⟨.k zPnt ⟨fkc,fkp bPnt,fkc,fka,fku,trivial⟩,⟨⟩⟩ fun ae v1 d h4 aq=>?_;simp only[fzw,Kw.a];obtain⟨⟨ay,A⟩,-⟩:(v0.heap.size≤(ae 3 0).2∧Vr v1 (ae 3 0).2 (pnQ P))∧True:=aq;clear h4;have f:=d;clear d
 go_upto_region 5 with fail
 refine wp_wS [.c (pv e9 0),.c (.int .i64 k),.c (.agg (pnQ P)),.c (.int .i64 x),.c (.tuple #[.pointer none,.int .i64 1602]),.c (.tuple #[.pointer none,.int .i64 1602]),.c (.pointer none),.c (.int .i64 1602),.c (.pointer none),.c (.int .i64 1602)] [1,2,4] ⟨.o 3 0 (c9.gr f) rfl rfl,.g 35 0 A rfl,.z (new_size U V oP hx),⟨⟩⟩ fun aC v2 d h5=>?_;simp only[fzw];clear h5;replace f:=f.trans d;have h:=d;clear d
 go_upto_region 6 with fail
 refine wp_wS [.c (pv e9 0),.c (.int .i64 k),.c (.agg (pnQ P)),.tt 1 (mF k P),.tt 1 (mF k P),.tp 1 (mF k P),.O,.tp 1 (mF k P),.O] [1,2,3,4,5,6,7] ⟨.o 3 0 (c9.gr f) rfl rfl,.g 35 0 (A.gr h) rfl,.k _ fun J S d X =>  ((new_tt U V oP (n:=1) (by decide) rfl _)),.m 3,.m 4,.m 4,.m 5,⟨⟩⟩ fun D v3 d h6=>?_;simp only[fzw,Kw.tp,Kw.tt];have B:Tb v3 (D 7 0).2 (D 7 1).2 (D 7 2).2 1 (mF k P):=h6 7;clear h6;replace f:=f.trans d;replace h:=h.trans d;clear d
 go_upto_region 7 with fail
 refine wp_wS [.T,.F,.F,.O,.O,.F,.F] [4] ⟨.y (num_any _),⟨⟩⟩ fun aD v4 d h7=>?_;simp only[fzw];clear h7;replace f:=f.trans d;replace h:=h.trans d;have C:=d;clear d
 go_upto_region 9 with fail
 refine wp_v false [.c (pv ((D 7 0).2) 0),.E (.agg (pnt 0 0 true)),.E (.agg (pnt 0 0 true)),.c (.agg (pnt 0 0 true)),.O,.a,.u,.O] [1] [⟨5,6,35,pnt 0 0 false,fun _=>pnt 0 0 true⟩] ⟨.k _ fun J S d X=>RtW.of_c (Rt.c (pickM U V oP (B.gr (C.trans d)) (by decide) (i:=0) (by decide) rfl (Z:=inf) (mlQ_zero U V P))),⟨⟩⟩ ⟨.k zPnt (.t rfl),⟨⟩⟩ fun af v5 d h9 ar=>?_;simp only[fzw,Kw.a];obtain⟨⟨az,H⟩,-⟩:(v4.heap.size≤(af 5 0).2∧Vr v5 (af 5 0).2 (pnt 0 0 true))∧True:=ar;clear h9;replace f:=f.trans d;replace h:=h.trans d;replace C:=C.trans d;clear d
 go_upto_region 10 with fail
 refine wp_v false [.c (pv ((D 7 0).2) 0),.c (.tuple #[.agg (pnt 0 0 false),.int .i64 1603]),.c (.tuple #[.agg (pnt 0 0 false),.int .i64 1603]),.c (.agg (pnt 0 0 false)),.c (.int .i64 1603),.a,.u,.c (.int .i64 1603)] [1] [⟨5,6,35,pnt 0 0 false,fun _=>pnt 0 0 false⟩] ⟨.k _ fun J S d X=>RtW.of_c (Rt.c (pickE (B.gr (C.trans d)) (.pointer none) (x:=1) (Or.inr (by decide)))),⟨⟩⟩ ⟨.k zPnt (.t rfl),⟨⟩⟩ fun L v6 d au ag=>?_;simp only[fzw,Kw.a];obtain⟨⟨av,I⟩,-⟩:(v5.heap.size≤(L 5 0).2∧Vr v6 (L 5 0).2 (pnt 0 0 false))∧True:=ag;clear au;replace f:=f.trans d;replace h:=h.trans d;replace C:=C.trans d;have q:=d;clear d
 go_upto_region 11 with fail
 refine wp_wS [.c (.int .i64 x),.T,.T,.u,.u,.T] [1] ⟨.s (.binOp .lss 3 (.const (.int .i64 x)) (.const (.int .i64 1)) 3) rfl fun S d=>by simp[go_sem,exI,x1],⟨⟩⟩ fun aA v7 d aw=>?_;simp only[fzw];clear aw;replace q:=q.trans d;replace f:=f.trans d;replace h:=h.trans d;replace C:=C.trans d;have K:=d;clear d
 go_upto_region 12 with fail
 refine wp_wS [.c (.int .i64 1602),.c (.int .i64 1602),.T,.T,.c (.pointer none),.T,.T,.T,.c (.agg (pnt 0 0 true)),.c (.agg (pnt 0 0 true)),.T,.T,.T,.O,.O,.T,.T,.T] [1,5,8,10,14] ⟨.y (num_any _),.s (.binOp .eql 43 (.const (.pointer none)) (.const (.pointer none)) 43) rfl fun S d=>by simp[go_sem,exI],.g 35 0 (H.gr q) rfl,.s (.binOp .eql 35 (.const (.agg (pnt 0 0 true))) (.const (.agg (pnt 0 0 true))) 35) rfl fun S d=>by simp[go_sem,exI,eqPn,eqN_self],.y (num_any _),⟨⟩⟩ fun aB v8 d ax=>?_;simp only[fzw];clear ax;replace q:=q.trans d;replace K:=K.trans d;replace f:=f.trans d;replace h:=h.trans d;replace C:=C.trans d;clear d;replace G:=G.trans f;replace c9:=c9.gr f;replace W:=fun k=>(W k).gr f;replace A:=A.gr h;replace B:=B.gr C;replace H:=H.gr q;replace I:=I.gr K;clear q K f h C
 go_wp2_with fail
 go_ret
 exact⟨rfl,G⟩
theorem ltsizes_1(id:Int)(x:Int)(x1:¬x<1)(x2:16<x)(y:Int)(w:World):Cg 4 #[.int .i64 id,.int .i64 x,.int .i64 y] w (.bool true):=by
 obtain⟨u,hu,ah,hk⟩:=idx_conv id;have Y:=idx_bd id;obtain⟨k,aa⟩:=exl (idx id);rw[aa]at hk Y;obtain⟨U,V⟩:=Y
 have u0:(0:Int)≤u:=by omega
 have ai:(1:Int)+u%15=k:=by omega
 have aj:IntKind.i64.wrap ((u:Int)%15)=(u:Int)%15:=by rw[IntKind.wrap_i64];omega
 have ak:IntKind.u64.wrap ((u:Int)%15)=(u:Int)%15:=by rw[IntKind.wrap_u64];omega
 have ao:(u:Int).tmod 15=(u:Int)%15:=by rw[Int.tmod_eq_emod_of_nonneg (by omega)]
 have k0:(1:Int)≤k:=by omega
 have k1:(k:Int)≤15:=by omega
 have ap:id%18446744073709551616=(u:Int):=by rw[←hu,IntKind.wrap_u64]
 clear aa hk;have ab:Hid _:=getq_yes k U V;have ac:Hid _:=awake16_any
 go_enter func4,ntmps4
 go_upto_region 4 with (first
  | (go_at_call 15;refine(ac.out _).mono ?_;rintro e WA ⟨rfl,GA⟩)
  | (go_at_call 16;refine(ab.out _).mono ?_;rintro e WB ⟨qc,rfl,W,GB⟩))
 obtain⟨e9,S⟩:=exl (WB.heap.size);simp only[S]
 refine gen_w (fun v=>Gr w v∧Vr v e9 (crA (k:Int) (nN k) qc)∧∀j,Sl v (qc j).1 (nN k j)) ?_ ?_
 ·subst S;exact⟨(GA.trans GB).alloc _,Vr.new _ _ _,fun j=>(W j).gr ((Gr.refl _).alloc _)⟩
 clear S GA GB W ac ab hu ah ai aj ak ao ap u0 k0 k1;rintro v0 ⟨G,c9,W⟩;obtain⟨P,hP⟩:=exl (gQ k);have oP:OnQ k P:=hP▸gQ_on U V;have hx:x<1∨16<x:=Or.inr x2;refine wp_v false [.c (.agg (crA (k:Int) (nN k) qc)),.pt (P.1) (P.2.1) P.2.2,.c (.agg (pnQ P)),.a,.u] [0,1,2] [⟨3,4,35,pnt 0 0 false,fun _=>pnQ P⟩] ⟨.g 27 0 c9 rfl,.k _ fun J L d X=>RtW.of_pt (rgQ hP qc _ (fun j=>(W j).gr d)),.k (fun J =>#[.agg (ptA (J 1 0).1 (P.1) (J 1 0).2 (J 1 1).1 (P.2.1) (J 1 1).2 P.2.2)]) fun J L d X=>RtW.of_c (Rt.c (rout_any _ _ _ _ _ _ _ _ (X 1 rfl).1 (X 1 rfl).2)),⟨⟩⟩ ⟨.k zPnt ⟨fkc,fkp bPnt,fkc,fka,fku,trivial⟩,⟨⟩⟩ fun ae v1 d h4 aq=>?_;simp only[fzw,Kw.a];obtain⟨⟨ay,A⟩,-⟩:(v0.heap.size≤(ae 3 0).2∧Vr v1 (ae 3 0).2 (pnQ P))∧True:=aq;clear h4;have f:=d;clear d
 go_upto_region 5 with fail
 refine wp_wS [.c (pv e9 0),.c (.int .i64 k),.c (.agg (pnQ P)),.c (.int .i64 x),.c (.tuple #[.pointer none,.int .i64 1602]),.c (.tuple #[.pointer none,.int .i64 1602]),.c (.pointer none),.c (.int .i64 1602),.c (.pointer none),.c (.int .i64 1602)] [1,2,4] ⟨.o 3 0 (c9.gr f) rfl rfl,.g 35 0 A rfl,.z (new_size U V oP hx),⟨⟩⟩ fun aC v2 d h5=>?_;simp only[fzw];clear h5;replace f:=f.trans d;have h:=d;clear d
 go_upto_region 6 with fail
 refine wp_wS [.c (pv e9 0),.c (.int .i64 k),.c (.agg (pnQ P)),.tt 1 (mF k P),.tt 1 (mF k P),.tp 1 (mF k P),.O,.tp 1 (mF k P),.O] [1,2,3,4,5,6,7] ⟨.o 3 0 (c9.gr f) rfl rfl,.g 35 0 (A.gr h) rfl,.k _ fun J L d X =>  ((new_tt U V oP (n:=1) (by decide) rfl _)),.m 3,.m 4,.m 4,.m 5,⟨⟩⟩ fun D v3 d h6=>?_;simp only[fzw,Kw.tp,Kw.tt];have B:Tb v3 (D 7 0).2 (D 7 1).2 (D 7 2).2 1 (mF k P):=h6 7;clear h6;replace f:=f.trans d;replace h:=h.trans d;clear d
 go_upto_region 7 with fail
 refine wp_wS [.T,.F,.F,.O,.O,.F,.F] [4] ⟨.y (num_any _),⟨⟩⟩ fun aD v4 d h7=>?_;simp only[fzw];clear h7;replace f:=f.trans d;replace h:=h.trans d;have C:=d;clear d
 go_upto_region 9 with fail
 refine wp_v false [.c (pv ((D 7 0).2) 0),.E (.agg (pnt 0 0 true)),.E (.agg (pnt 0 0 true)),.c (.agg (pnt 0 0 true)),.O,.a,.u,.O] [1] [⟨5,6,35,pnt 0 0 false,fun _=>pnt 0 0 true⟩] ⟨.k _ fun J L d X=>RtW.of_c (Rt.c (pickM U V oP (B.gr (C.trans d)) (by decide) (i:=0) (by decide) rfl (Z:=inf) (mlQ_zero U V P))),⟨⟩⟩ ⟨.k zPnt (.t rfl),⟨⟩⟩ fun af v5 d h9 ar=>?_;simp only[fzw,Kw.a];obtain⟨⟨az,H⟩,-⟩:(v4.heap.size≤(af 5 0).2∧Vr v5 (af 5 0).2 (pnt 0 0 true))∧True:=ar;clear h9;replace f:=f.trans d;replace h:=h.trans d;replace C:=C.trans d;clear d
 go_upto_region 10 with fail
 refine wp_v false [.c (pv ((D 7 0).2) 0),.c (.tuple #[.agg (pnt 0 0 false),.int .i64 1603]),.c (.tuple #[.agg (pnt 0 0 false),.int .i64 1603]),.c (.agg (pnt 0 0 false)),.c (.int .i64 1603),.a,.u,.c (.int .i64 1603)] [1] [⟨5,6,35,pnt 0 0 false,fun _=>pnt 0 0 false⟩] ⟨.k _ fun J L d X=>RtW.of_c (Rt.c (pickE (B.gr (C.trans d)) (.pointer none) (x:=1) (Or.inr (by decide)))),⟨⟩⟩ ⟨.k zPnt (.t rfl),⟨⟩⟩ fun Q v6 d au ag=>?_;simp only[fzw,Kw.a];obtain⟨⟨av,I⟩,-⟩:(v5.heap.size≤(Q 5 0).2∧Vr v6 (Q 5 0).2 (pnt 0 0 false))∧True:=ag;clear au;replace f:=f.trans d;replace h:=h.trans d;replace C:=C.trans d;have q:=d;clear d
 go_upto_region 11 with fail
 refine wp_wS [.c (.int .i64 x),.F,.F,.c (.int .i64 x),.T,.T] [1,4] ⟨.s (.binOp .lss 3 (.const (.int .i64 x)) (.const (.int .i64 1)) 3) rfl fun L d=>by simp[go_sem,exI,x1],.s (.binOp .gtr 3 (.const (.int .i64 x)) (.const (.int .i64 16)) 3) rfl fun L d=>by simp[go_sem,exI,x2],⟨⟩⟩ fun aA v7 d aw=>?_;simp only[fzw];clear aw;replace q:=q.trans d;replace f:=f.trans d;replace h:=h.trans d;replace C:=C.trans d;have K:=d;clear d
 go_upto_region 12 with fail
 refine wp_wS [.c (.int .i64 1602),.c (.int .i64 1602),.T,.T,.c (.pointer none),.T,.T,.T,.c (.agg (pnt 0 0 true)),.c (.agg (pnt 0 0 true)),.T,.T,.T,.O,.O,.T,.T,.T] [1,5,8,10,14] ⟨.y (num_any _),.s (.binOp .eql 43 (.const (.pointer none)) (.const (.pointer none)) 43) rfl fun L d=>by simp[go_sem,exI],.g 35 0 (H.gr q) rfl,.s (.binOp .eql 35 (.const (.agg (pnt 0 0 true))) (.const (.agg (pnt 0 0 true))) 35) rfl fun L d=>by simp[go_sem,exI,eqPn,eqN_self],.y (num_any _),⟨⟩⟩ fun aB v8 d ax=>?_;simp only[fzw];clear ax;replace q:=q.trans d;replace K:=K.trans d;replace f:=f.trans d;replace h:=h.trans d;replace C:=C.trans d;clear d;replace G:=G.trans f;replace c9:=c9.gr f;replace W:=fun k=>(W k).gr f;replace A:=A.gr h;replace B:=B.gr C;replace H:=H.gr q;replace I:=I.gr K;clear q K f h C
 go_wp2_with fail
 go_ret
 exact⟨rfl,G⟩
theorem ltsizes_2(id:Int){n:Nat}(hn:1≤n∧n≤16){x:Int}(hx:(n:Int)=x){i:Nat}(hi:i<n){y:Int}(hy:(i:Int)=y)(w:World):Cg 4 #[.int .i64 id,.int .i64 x,.int .i64 y] w (.bool true):=by
 obtain⟨u,hu,ao,hk⟩:=idx_conv id;have ab:=idx_bd id;obtain⟨k,ac⟩:=exl (idx id);rw[ac]at hk ab;obtain⟨h1,h2⟩:=ab
 have u0:(0:Int)≤u:=by omega
 have ap:(1:Int)+u%15=k:=by omega
 have aq:IntKind.i64.wrap ((u:Int)%15)=(u:Int)%15:=by rw[IntKind.wrap_i64];omega
 have ar:IntKind.u64.wrap ((u:Int)%15)=(u:Int)%15:=by rw[IntKind.wrap_u64];omega
 have au:(u:Int).tmod 15=(u:Int)%15:=by rw[Int.tmod_eq_emod_of_nonneg (by omega)]
 have k0:(1:Int)≤k:=by omega
 have k1:(k:Int)≤15:=by omega
 have av:id%18446744073709551616=(u:Int):=by rw[←hu,IntKind.wrap_u64]
 clear ac hk;have ae:Hid _:=getq_yes k h1 h2;have af:Hid _:=awake16_any
 go_enter func4,ntmps4
 go_upto_region 4 with (first
  | (go_at_call 15;refine(af.out _).mono ?_;rintro e WA ⟨rfl,GA⟩)
  | (go_at_call 16;refine(ae.out _).mono ?_;rintro e WB ⟨qc,rfl,HQ,GB⟩))
 obtain⟨e9,aa⟩:=exl (WB.heap.size);simp only[aa]
 refine gen_w (fun v=>Gr w v∧Vr v e9 (crA (k:Int) (nN k) qc)∧∀j,Sl v (qc j).1 (nN k j)) ?_ ?_
 ·subst aa;exact⟨(GA.trans GB).alloc _,Vr.new _ _ _,fun j=>(HQ j).gr ((Gr.refl _).alloc _)⟩
 clear aa GA GB HQ af ae hu ao ap aq ar au av u0 k0 k1;rintro v0 ⟨G,c9,HQ⟩;obtain⟨P,hP⟩:=exl (gQ k);have oP:OnQ k P:=hP▸gQ_on h1 h2
 have x1:¬x<1:=by omega
 have x2:¬16<x:=by omega
 obtain⟨Z,hZ⟩:=exl (mlQ k i P)
 have y1:0≤y:=by omega
 have y2:y<x:=by omega
 refine wp_v false [.c (.agg (crA (k:Int) (nN k) qc)),.pt (P.1) (P.2.1) P.2.2,.c (.agg (pnQ P)),.a,.u] [0,1,2] [⟨3,4,35,pnt 0 0 false,fun _=>pnQ P⟩] ⟨.g 27 0 c9 rfl,.k _ fun K I d W=>RtW.of_pt (rgQ hP qc _ (fun j=>(HQ j).gr d)),.k (fun K =>#[.agg (ptA (K 1 0).1 (P.1) (K 1 0).2 (K 1 1).1 (P.2.1) (K 1 1).2 P.2.2)]) fun K I d W=>RtW.of_c (Rt.c (rout_any _ _ _ _ _ _ _ _ (W 1 rfl).1 (W 1 rfl).2)),⟨⟩⟩ ⟨.k zPnt ⟨fkc,fkp bPnt,fkc,fka,fku,trivial⟩,⟨⟩⟩ fun ag v1 d h4 aw=>?_;simp only[fzw,Kw.a];obtain⟨⟨aE,B⟩,-⟩:(v0.heap.size≤(ag 3 0).2∧Vr v1 (ag 3 0).2 (pnQ P))∧True:=aw;clear h4;have f:=d;clear d
 go_upto_region 5 with fail
 refine wp_wS [.c (pv e9 0),.c (.int .i64 k),.c (.agg (pnQ P)),.c (.int .i64 x),.tt n (mF k P),.tt n (mF k P),.tp n (mF k P),.O,.tp n (mF k P),.O] [1,2,4,5,6,7,8] ⟨.o 3 0 (c9.gr f) rfl rfl,.g 35 0 B rfl,.k _ fun K I d W =>  ((new_tt h1 h2 oP hn hx _)),.m 4,.m 5,.m 5,.m 6,⟨⟩⟩ fun L v2 d h5=>?_;simp only[fzw,Kw.tp,Kw.tt];have C:Tb v2 (L 8 0).2 (L 8 1).2 (L 8 2).2 n (mF k P):=h5 8;clear h5;replace f:=f.trans d;have q:=d;clear d
 go_upto_region 6 with fail
 refine wp_wS [.c (pv e9 0),.c (.int .i64 k),.c (.agg (pnQ P)),.tt 1 (mF k P),.tt 1 (mF k P),.tp 1 (mF k P),.O,.tp 1 (mF k P),.O] [1,2,3,4,5,6,7] ⟨.o 3 0 (c9.gr f) rfl rfl,.g 35 0 (B.gr q) rfl,.k _ fun K I d W =>  ((new_tt h1 h2 oP (n:=1) (by decide) rfl _)),.m 3,.m 4,.m 4,.m 5,⟨⟩⟩ fun Q v3 d h6=>?_;simp only[fzw,Kw.tp,Kw.tt];have D:Tb v3 (Q 7 0).2 (Q 7 1).2 (Q 7 2).2 1 (mF k P):=h6 7;clear h6;replace f:=f.trans d;replace q:=q.trans d;have A:=d;clear d
 go_upto_region 7 with fail
 refine wp_wS [.T,.F,.F,.O,.O,.F,.F] [4] ⟨.y (num_any _),⟨⟩⟩ fun aJ v4 d h7=>?_;simp only[fzw];clear h7;replace f:=f.trans d;replace q:=q.trans d;replace A:=A.trans d;have H:=d;clear d
 go_upto_region 9 with fail
 refine wp_v false [.c (pv ((Q 7 0).2) 0),.E (.agg (pnt 0 0 true)),.E (.agg (pnt 0 0 true)),.c (.agg (pnt 0 0 true)),.O,.a,.u,.O] [1] [⟨5,6,35,pnt 0 0 false,fun _=>pnt 0 0 true⟩] ⟨.k _ fun K I d W=>RtW.of_c (Rt.c (pickM h1 h2 oP (D.gr (H.trans d)) (by decide) (i:=0) (by decide) rfl (Z:=inf) (mlQ_zero h1 h2 P))),⟨⟩⟩ ⟨.k zPnt (.t rfl),⟨⟩⟩ fun ah v5 d h9 ax=>?_;simp only[fzw,Kw.a];obtain⟨⟨aG,S⟩,-⟩:(v4.heap.size≤(ah 5 0).2∧Vr v5 (ah 5 0).2 (pnt 0 0 true))∧True:=ax;clear h9;replace f:=f.trans d;replace q:=q.trans d;replace A:=A.trans d;replace H:=H.trans d;clear d
 go_upto_region 10 with fail
 refine wp_v false [.c (pv ((Q 7 0).2) 0),.c (.tuple #[.agg (pnt 0 0 false),.int .i64 1603]),.c (.tuple #[.agg (pnt 0 0 false),.int .i64 1603]),.c (.agg (pnt 0 0 false)),.c (.int .i64 1603),.a,.u,.c (.int .i64 1603)] [1] [⟨5,6,35,pnt 0 0 false,fun _=>pnt 0 0 false⟩] ⟨.k _ fun K I d W=>RtW.of_c (Rt.c (pickE (D.gr (H.trans d)) (.pointer none) (x:=1) (Or.inr (by decide)))),⟨⟩⟩ ⟨.k zPnt (.t rfl),⟨⟩⟩ fun X v6 d ay ai=>?_;simp only[fzw,Kw.a];obtain⟨⟨az,U⟩,-⟩:(v5.heap.size≤(X 5 0).2∧Vr v6 (X 5 0).2 (pnt 0 0 false))∧True:=ai;clear ay;replace f:=f.trans d;replace q:=q.trans d;replace A:=A.trans d;replace H:=H.trans d;have h:=d;clear d
 go_upto_region 11 with fail
 refine wp_wS [.c (.int .i64 x),.F,.F,.c (.int .i64 x),.F,.F] [1,4] ⟨.s (.binOp .lss 3 (.const (.int .i64 x)) (.const (.int .i64 1)) 3) rfl fun I d=>by simp[go_sem,exI,x1],.s (.binOp .gtr 3 (.const (.int .i64 x)) (.const (.int .i64 16)) 3) rfl fun I d=>by simp[go_sem,exI,x2],⟨⟩⟩ fun aH v7 d aA=>?_;simp only[fzw];clear aA;replace h:=h.trans d;replace f:=f.trans d;replace q:=q.trans d;replace A:=A.trans d;replace H:=H.trans d;have J:=d;clear d
 go_upto_region 13 with fail
 refine wp_v false [.c (pv ((L 8 0).2) 0),.c (.int .i64 y),.E (.agg (pnQ Z)),.E (.agg (pnQ Z)),.c (.agg (pnQ Z)),.O,.a,.u,.O] [2] [⟨6,7,35,pnt 0 0 false,fun _=>pnQ Z⟩] ⟨.k _ fun K I d W=>RtW.of_c (Rt.c (pickM h1 h2 oP (C.gr (A.trans d)) hn.2 hi hy hZ)),⟨⟩⟩ ⟨.k zPnt (.t rfl),⟨⟩⟩ fun Y v8 d aB aj=>?_;simp only[fzw,Kw.a];obtain⟨⟨aC,V⟩,-⟩:(v7.heap.size≤(Y 6 0).2∧Vr v8 (Y 6 0).2 (pnQ Z))∧True:=aj;clear aB;replace h:=h.trans d;replace J:=J.trans d;replace f:=f.trans d;replace q:=q.trans d;replace A:=A.trans d;replace H:=H.trans d;clear d
 go_upto_region 14 with fail
 refine wp_wS [.O,.O,.T,.T,.c (pv ((L 8 0).2) 0),.c (.int .i64 (n:Nat)),.c (.int .i64 x),.T,.T,.T,.c (.agg (pnt 0 0 true)),.c (.agg (pnt 0 0 true)),.T,.T,.T,.c (.int .i64 1603),.c (.int .i64 1603),.T,.T,.T,.O,.O,.T,.c (.int .i64 y),.T,.T,.c (.int .i64 y),.c (.int .i64 x),.T,.T,.T,.T,.T] [1,5,7,10,12,16,21,24,28] ?hs25 ?hf25
 case hs25=>
  exact⟨.y (num_any _),.k _ fun K I d W=>RtW.of_c (Rt.c (sizeT (C.gr (A.trans d)))),.s (.binOp .eql 3 (.const (.int .i64 (n:Nat))) (.const (.int .i64 x)) 3) rfl fun I d=>by simp[go_sem,exI,hx],.g 35 0 (S.gr h) rfl,.s (.binOp .eql 35 (.const (.agg (pnt 0 0 true))) (.const (.agg (pnt 0 0 true))) 35) rfl fun I d=>by simp[go_sem,exI,eqPn,eqN_self],.y (num_any _),.y (num_any _),.s (.binOp .geq 3 (.const (.int .i64 y)) (.const (.int .i64 0)) 3) rfl fun I d=>by simp[go_sem,exI,y1],.s (.binOp .lss 3 (.const (.int .i64 y)) (.const (.int .i64 x)) 3) rfl fun I d=>by simp[go_sem,exI,y2],⟨⟩⟩
 intro aI v9 d aD;simp only[fzw];clear aD;replace h:=h.trans d;replace J:=J.trans d;replace f:=f.trans d;replace q:=q.trans d;replace A:=A.trans d;replace H:=H.trans d;have ak:=d;clear d;replace G:=G.trans f;replace c9:=c9.gr f;replace HQ:=fun k=>(HQ k).gr f;replace B:=B.gr q;replace C:=C.gr A;replace D:=D.gr H;replace S:=S.gr h;replace U:=U.gr J;replace V:=V.gr ak;clear h J ak f q A H
 go_wp2_with fail
 go_ret
 exact⟨rfl,G⟩
theorem ltsizes_3(id:Int){n:Nat}(hn:1≤n∧n≤16){x:Int}(hx:(n:Int)=x){y:Int}(y1:y<0)(w:World):Cg 4 #[.int .i64 id,.int .i64 x,.int .i64 y] w (.bool true):=by
 obtain⟨u,hu,ao,hk⟩:=idx_conv id;have ab:=idx_bd id;obtain⟨k,ac⟩:=exl (idx id);rw[ac]at hk ab;obtain⟨h1,h2⟩:=ab
 have u0:(0:Int)≤u:=by omega
 have ap:(1:Int)+u%15=k:=by omega
 have aq:IntKind.i64.wrap ((u:Int)%15)=(u:Int)%15:=by rw[IntKind.wrap_i64];omega
 have ar:IntKind.u64.wrap ((u:Int)%15)=(u:Int)%15:=by rw[IntKind.wrap_u64];omega
 have au:(u:Int).tmod 15=(u:Int)%15:=by rw[Int.tmod_eq_emod_of_nonneg (by omega)]
 have k0:(1:Int)≤k:=by omega
 have k1:(k:Int)≤15:=by omega
 have av:id%18446744073709551616=(u:Int):=by rw[←hu,IntKind.wrap_u64]
 clear ac hk;have ae:Hid _:=getq_yes k h1 h2;have af:Hid _:=awake16_any
 go_enter func4,ntmps4
 go_upto_region 4 with (first
  | (go_at_call 15;refine(af.out _).mono ?_;rintro e WA ⟨rfl,GA⟩)
  | (go_at_call 16;refine(ae.out _).mono ?_;rintro e WB ⟨qc,rfl,HQ,GB⟩))
 obtain⟨e9,aa⟩:=exl (WB.heap.size);simp only[aa]
 refine gen_w (fun v=>Gr w v∧Vr v e9 (crA (k:Int) (nN k) qc)∧∀j,Sl v (qc j).1 (nN k j)) ?_ ?_
 ·subst aa;exact⟨(GA.trans GB).alloc _,Vr.new _ _ _,fun j=>(HQ j).gr ((Gr.refl _).alloc _)⟩
 clear aa GA GB HQ af ae hu ao ap aq ar au av u0 k0 k1;rintro v0 ⟨G,c9,HQ⟩;obtain⟨P,hP⟩:=exl (gQ k);have oP:OnQ k P:=hP▸gQ_on h1 h2
 have x1:¬x<1:=by omega
 have x2:¬16<x:=by omega
 have hy:y<0∨(n:Int)≤y:=Or.inl y1
 replace y1:¬0≤y:=by omega
 refine wp_v false [.c (.agg (crA (k:Int) (nN k) qc)),.pt (P.1) (P.2.1) P.2.2,.c (.agg (pnQ P)),.a,.u] [0,1,2] [⟨3,4,35,pnt 0 0 false,fun _=>pnQ P⟩] ⟨.g 27 0 c9 rfl,.k _ fun J K d W=>RtW.of_pt (rgQ hP qc _ (fun j=>(HQ j).gr d)),.k (fun J =>#[.agg (ptA (J 1 0).1 (P.1) (J 1 0).2 (J 1 1).1 (P.2.1) (J 1 1).2 P.2.2)]) fun J K d W=>RtW.of_c (Rt.c (rout_any _ _ _ _ _ _ _ _ (W 1 rfl).1 (W 1 rfl).2)),⟨⟩⟩ ⟨.k zPnt ⟨fkc,fkp bPnt,fkc,fka,fku,trivial⟩,⟨⟩⟩ fun ag v1 d h4 aw=>?_;simp only[fzw,Kw.a];obtain⟨⟨aE,B⟩,-⟩:(v0.heap.size≤(ag 3 0).2∧Vr v1 (ag 3 0).2 (pnQ P))∧True:=aw;clear h4;have f:=d;clear d
 go_upto_region 5 with fail
 refine wp_wS [.c (pv e9 0),.c (.int .i64 k),.c (.agg (pnQ P)),.c (.int .i64 x),.tt n (mF k P),.tt n (mF k P),.tp n (mF k P),.O,.tp n (mF k P),.O] [1,2,4,5,6,7,8] ⟨.o 3 0 (c9.gr f) rfl rfl,.g 35 0 B rfl,.k _ fun J K d W =>  ((new_tt h1 h2 oP hn hx _)),.m 4,.m 5,.m 5,.m 6,⟨⟩⟩ fun L v2 d h5=>?_;simp only[fzw,Kw.tp,Kw.tt];have C:Tb v2 (L 8 0).2 (L 8 1).2 (L 8 2).2 n (mF k P):=h5 8;clear h5;replace f:=f.trans d;have q:=d;clear d
 go_upto_region 6 with fail
 refine wp_wS [.c (pv e9 0),.c (.int .i64 k),.c (.agg (pnQ P)),.tt 1 (mF k P),.tt 1 (mF k P),.tp 1 (mF k P),.O,.tp 1 (mF k P),.O] [1,2,3,4,5,6,7] ⟨.o 3 0 (c9.gr f) rfl rfl,.g 35 0 (B.gr q) rfl,.k _ fun J K d W =>  ((new_tt h1 h2 oP (n:=1) (by decide) rfl _)),.m 3,.m 4,.m 4,.m 5,⟨⟩⟩ fun Q v3 d h6=>?_;simp only[fzw,Kw.tp,Kw.tt];have D:Tb v3 (Q 7 0).2 (Q 7 1).2 (Q 7 2).2 1 (mF k P):=h6 7;clear h6;replace f:=f.trans d;replace q:=q.trans d;have A:=d;clear d
 go_upto_region 7 with fail
 refine wp_wS [.T,.F,.F,.O,.O,.F,.F] [4] ⟨.y (num_any _),⟨⟩⟩ fun aJ v4 d h7=>?_;simp only[fzw];clear h7;replace f:=f.trans d;replace q:=q.trans d;replace A:=A.trans d;have H:=d;clear d
 go_upto_region 9 with fail
 refine wp_v false [.c (pv ((Q 7 0).2) 0),.E (.agg (pnt 0 0 true)),.E (.agg (pnt 0 0 true)),.c (.agg (pnt 0 0 true)),.O,.a,.u,.O] [1] [⟨5,6,35,pnt 0 0 false,fun _=>pnt 0 0 true⟩] ⟨.k _ fun J K d W=>RtW.of_c (Rt.c (pickM h1 h2 oP (D.gr (H.trans d)) (by decide) (i:=0) (by decide) rfl (Z:=inf) (mlQ_zero h1 h2 P))),⟨⟩⟩ ⟨.k zPnt (.t rfl),⟨⟩⟩ fun ah v5 d h9 ax=>?_;simp only[fzw,Kw.a];obtain⟨⟨aG,S⟩,-⟩:(v4.heap.size≤(ah 5 0).2∧Vr v5 (ah 5 0).2 (pnt 0 0 true))∧True:=ax;clear h9;replace f:=f.trans d;replace q:=q.trans d;replace A:=A.trans d;replace H:=H.trans d;clear d
 go_upto_region 10 with fail
 refine wp_v false [.c (pv ((Q 7 0).2) 0),.c (.tuple #[.agg (pnt 0 0 false),.int .i64 1603]),.c (.tuple #[.agg (pnt 0 0 false),.int .i64 1603]),.c (.agg (pnt 0 0 false)),.c (.int .i64 1603),.a,.u,.c (.int .i64 1603)] [1] [⟨5,6,35,pnt 0 0 false,fun _=>pnt 0 0 false⟩] ⟨.k _ fun J K d W=>RtW.of_c (Rt.c (pickE (D.gr (H.trans d)) (.pointer none) (x:=1) (Or.inr (by decide)))),⟨⟩⟩ ⟨.k zPnt (.t rfl),⟨⟩⟩ fun X v6 d ay ai=>?_;simp only[fzw,Kw.a];obtain⟨⟨az,U⟩,-⟩:(v5.heap.size≤(X 5 0).2∧Vr v6 (X 5 0).2 (pnt 0 0 false))∧True:=ai;clear ay;replace f:=f.trans d;replace q:=q.trans d;replace A:=A.trans d;replace H:=H.trans d;have h:=d;clear d
 go_upto_region 11 with fail
 refine wp_wS [.c (.int .i64 x),.F,.F,.c (.int .i64 x),.F,.F] [1,4] ⟨.s (.binOp .lss 3 (.const (.int .i64 x)) (.const (.int .i64 1)) 3) rfl fun K d=>by simp[go_sem,exI,x1],.s (.binOp .gtr 3 (.const (.int .i64 x)) (.const (.int .i64 16)) 3) rfl fun K d=>by simp[go_sem,exI,x2],⟨⟩⟩ fun aH v7 d aA=>?_;simp only[fzw];clear aA;replace h:=h.trans d;replace f:=f.trans d;replace q:=q.trans d;replace A:=A.trans d;replace H:=H.trans d;have I:=d;clear d
 go_upto_region 13 with fail
 refine wp_v false [.c (pv ((L 8 0).2) 0),.c (.int .i64 y),.c (.tuple #[.agg (pnt 0 0 false),.int .i64 1603]),.c (.tuple #[.agg (pnt 0 0 false),.int .i64 1603]),.c (.agg (pnt 0 0 false)),.c (.int .i64 1603),.a,.u,.c (.int .i64 1603)] [2] [⟨6,7,35,pnt 0 0 false,fun _=>pnt 0 0 false⟩] ⟨.k _ fun J K d W=>RtW.of_c (Rt.c (pickE (C.gr (A.trans d)) (.pointer none) hy)),⟨⟩⟩ ⟨.k zPnt (.t rfl),⟨⟩⟩ fun Y v8 d aB aj=>?_;simp only[fzw,Kw.a];obtain⟨⟨aC,V⟩,-⟩:(v7.heap.size≤(Y 6 0).2∧Vr v8 (Y 6 0).2 (pnt 0 0 false))∧True:=aj;clear aB;replace h:=h.trans d;replace I:=I.trans d;replace f:=f.trans d;replace q:=q.trans d;replace A:=A.trans d;replace H:=H.trans d;clear d
 go_upto_region 14 with fail
 refine wp_wS [.O,.O,.T,.T,.c (pv ((L 8 0).2) 0),.c (.int .i64 (n:Nat)),.c (.int .i64 x),.T,.T,.T,.c (.agg (pnt 0 0 true)),.c (.agg (pnt 0 0 true)),.T,.T,.T,.c (.int .i64 1603),.c (.int .i64 1603),.T,.T,.T,.c (.int .i64 1603),.c (.int .i64 1603),.F,.c (.int .i64 y),.F,.F,.u,.u,.u,.F,.T,.T,.T] [1,5,7,10,12,16,21,24] ?hs34 ?hf34
 case hs34=>
  exact⟨.y (num_any _),.k _ fun J K d W=>RtW.of_c (Rt.c (sizeT (C.gr (A.trans d)))),.s (.binOp .eql 3 (.const (.int .i64 (n:Nat))) (.const (.int .i64 x)) 3) rfl fun K d=>by simp[go_sem,exI,hx],.g 35 0 (S.gr h) rfl,.s (.binOp .eql 35 (.const (.agg (pnt 0 0 true))) (.const (.agg (pnt 0 0 true))) 35) rfl fun K d=>by simp[go_sem,exI,eqPn,eqN_self],.y (num_any _),.y (num_any _),.s (.binOp .geq 3 (.const (.int .i64 y)) (.const (.int .i64 0)) 3) rfl fun K d=>by simp[go_sem,exI,y1],⟨⟩⟩
 intro aI v9 d aD;simp only[fzw];clear aD;replace h:=h.trans d;replace I:=I.trans d;replace f:=f.trans d;replace q:=q.trans d;replace A:=A.trans d;replace H:=H.trans d;have ak:=d;clear d;replace G:=G.trans f;replace c9:=c9.gr f;replace HQ:=fun k=>(HQ k).gr f;replace B:=B.gr q;replace C:=C.gr A;replace D:=D.gr H;replace S:=S.gr h;replace U:=U.gr I;replace V:=V.gr ak;clear h I ak f q A H
 go_wp2_with fail
 go_ret
 exact⟨rfl,G⟩
theorem ltsizes_4(id:Int){n:Nat}(hn:1≤n∧n≤16){x:Int}(hx:(n:Int)=x){y:Int}(y1:0≤y)(hy:(n:Int)≤y)(w:World):Cg 4 #[.int .i64 id,.int .i64 x,.int .i64 y] w (.bool true):=by
 obtain⟨u,hu,ao,hk⟩:=idx_conv id;have ab:=idx_bd id;obtain⟨k,ac⟩:=exl (idx id);rw[ac]at hk ab;obtain⟨h1,h2⟩:=ab
 have u0:(0:Int)≤u:=by omega
 have ap:(1:Int)+u%15=k:=by omega
 have aq:IntKind.i64.wrap ((u:Int)%15)=(u:Int)%15:=by rw[IntKind.wrap_i64];omega
 have ar:IntKind.u64.wrap ((u:Int)%15)=(u:Int)%15:=by rw[IntKind.wrap_u64];omega
 have au:(u:Int).tmod 15=(u:Int)%15:=by rw[Int.tmod_eq_emod_of_nonneg (by omega)]
 have k0:(1:Int)≤k:=by omega
 have k1:(k:Int)≤15:=by omega
 have av:id%18446744073709551616=(u:Int):=by rw[←hu,IntKind.wrap_u64]
 clear ac hk;have ae:Hid _:=getq_yes k h1 h2;have af:Hid _:=awake16_any
 go_enter func4,ntmps4
 go_upto_region 4 with (first
  | (go_at_call 15;refine(af.out _).mono ?_;rintro e WA ⟨rfl,GA⟩)
  | (go_at_call 16;refine(ae.out _).mono ?_;rintro e WB ⟨qc,rfl,HQ,GB⟩))
 obtain⟨e9,aa⟩:=exl (WB.heap.size);simp only[aa]
 refine gen_w (fun v=>Gr w v∧Vr v e9 (crA (k:Int) (nN k) qc)∧∀j,Sl v (qc j).1 (nN k j)) ?_ ?_
 ·subst aa;exact⟨(GA.trans GB).alloc _,Vr.new _ _ _,fun j=>(HQ j).gr ((Gr.refl _).alloc _)⟩
 clear aa GA GB HQ af ae hu ao ap aq ar au av u0 k0 k1;rintro v0 ⟨G,c9,HQ⟩;obtain⟨P,hP⟩:=exl (gQ k);have oP:OnQ k P:=hP▸gQ_on h1 h2
 have x1:¬x<1:=by omega
 have x2:¬16<x:=by omega
 have y2:¬y<x:=by omega
 replace hy:y<0∨(n:Int)≤y:=Or.inr hy;refine wp_v false [.c (.agg (crA (k:Int) (nN k) qc)),.pt (P.1) (P.2.1) P.2.2,.c (.agg (pnQ P)),.a,.u] [0,1,2] [⟨3,4,35,pnt 0 0 false,fun _=>pnQ P⟩] ⟨.g 27 0 c9 rfl,.k _ fun K I d W=>RtW.of_pt (rgQ hP qc _ (fun j=>(HQ j).gr d)),.k (fun K =>#[.agg (ptA (K 1 0).1 (P.1) (K 1 0).2 (K 1 1).1 (P.2.1) (K 1 1).2 P.2.2)]) fun K I d W=>RtW.of_c (Rt.c (rout_any _ _ _ _ _ _ _ _ (W 1 rfl).1 (W 1 rfl).2)),⟨⟩⟩ ⟨.k zPnt ⟨fkc,fkp bPnt,fkc,fka,fku,trivial⟩,⟨⟩⟩ fun ag v1 d h4 aw=>?_;simp only[fzw,Kw.a];obtain⟨⟨aE,B⟩,-⟩:(v0.heap.size≤(ag 3 0).2∧Vr v1 (ag 3 0).2 (pnQ P))∧True:=aw;clear h4;have f:=d;clear d
 go_upto_region 5 with fail
 refine wp_wS [.c (pv e9 0),.c (.int .i64 k),.c (.agg (pnQ P)),.c (.int .i64 x),.tt n (mF k P),.tt n (mF k P),.tp n (mF k P),.O,.tp n (mF k P),.O] [1,2,4,5,6,7,8] ⟨.o 3 0 (c9.gr f) rfl rfl,.g 35 0 B rfl,.k _ fun K I d W =>  ((new_tt h1 h2 oP hn hx _)),.m 4,.m 5,.m 5,.m 6,⟨⟩⟩ fun L v2 d h5=>?_;simp only[fzw,Kw.tp,Kw.tt];have C:Tb v2 (L 8 0).2 (L 8 1).2 (L 8 2).2 n (mF k P):=h5 8;clear h5;replace f:=f.trans d;have q:=d;clear d
 go_upto_region 6 with fail
 refine wp_wS [.c (pv e9 0),.c (.int .i64 k),.c (.agg (pnQ P)),.tt 1 (mF k P),.tt 1 (mF k P),.tp 1 (mF k P),.O,.tp 1 (mF k P),.O] [1,2,3,4,5,6,7] ⟨.o 3 0 (c9.gr f) rfl rfl,.g 35 0 (B.gr q) rfl,.k _ fun K I d W =>  ((new_tt h1 h2 oP (n:=1) (by decide) rfl _)),.m 3,.m 4,.m 4,.m 5,⟨⟩⟩ fun Q v3 d h6=>?_;simp only[fzw,Kw.tp,Kw.tt];have D:Tb v3 (Q 7 0).2 (Q 7 1).2 (Q 7 2).2 1 (mF k P):=h6 7;clear h6;replace f:=f.trans d;replace q:=q.trans d;have A:=d;clear d
 go_upto_region 7 with fail
 refine wp_wS [.T,.F,.F,.O,.O,.F,.F] [4] ⟨.y (num_any _),⟨⟩⟩ fun aJ v4 d h7=>?_;simp only[fzw];clear h7;replace f:=f.trans d;replace q:=q.trans d;replace A:=A.trans d;have H:=d;clear d
 go_upto_region 9 with fail
 refine wp_v false [.c (pv ((Q 7 0).2) 0),.E (.agg (pnt 0 0 true)),.E (.agg (pnt 0 0 true)),.c (.agg (pnt 0 0 true)),.O,.a,.u,.O] [1] [⟨5,6,35,pnt 0 0 false,fun _=>pnt 0 0 true⟩] ⟨.k _ fun K I d W=>RtW.of_c (Rt.c (pickM h1 h2 oP (D.gr (H.trans d)) (by decide) (i:=0) (by decide) rfl (Z:=inf) (mlQ_zero h1 h2 P))),⟨⟩⟩ ⟨.k zPnt (.t rfl),⟨⟩⟩ fun ah v5 d h9 ax=>?_;simp only[fzw,Kw.a];obtain⟨⟨aG,S⟩,-⟩:(v4.heap.size≤(ah 5 0).2∧Vr v5 (ah 5 0).2 (pnt 0 0 true))∧True:=ax;clear h9;replace f:=f.trans d;replace q:=q.trans d;replace A:=A.trans d;replace H:=H.trans d;clear d
 go_upto_region 10 with fail
 refine wp_v false [.c (pv ((Q 7 0).2) 0),.c (.tuple #[.agg (pnt 0 0 false),.int .i64 1603]),.c (.tuple #[.agg (pnt 0 0 false),.int .i64 1603]),.c (.agg (pnt 0 0 false)),.c (.int .i64 1603),.a,.u,.c (.int .i64 1603)] [1] [⟨5,6,35,pnt 0 0 false,fun _=>pnt 0 0 false⟩] ⟨.k _ fun K I d W=>RtW.of_c (Rt.c (pickE (D.gr (H.trans d)) (.pointer none) (x:=1) (Or.inr (by decide)))),⟨⟩⟩ ⟨.k zPnt (.t rfl),⟨⟩⟩ fun X v6 d ay ai=>?_;simp only[fzw,Kw.a];obtain⟨⟨az,U⟩,-⟩:(v5.heap.size≤(X 5 0).2∧Vr v6 (X 5 0).2 (pnt 0 0 false))∧True:=ai;clear ay;replace f:=f.trans d;replace q:=q.trans d;replace A:=A.trans d;replace H:=H.trans d;have h:=d;clear d
 go_upto_region 11 with fail
 refine wp_wS [.c (.int .i64 x),.F,.F,.c (.int .i64 x),.F,.F] [1,4] ⟨.s (.binOp .lss 3 (.const (.int .i64 x)) (.const (.int .i64 1)) 3) rfl fun I d=>by simp[go_sem,exI,x1],.s (.binOp .gtr 3 (.const (.int .i64 x)) (.const (.int .i64 16)) 3) rfl fun I d=>by simp[go_sem,exI,x2],⟨⟩⟩ fun aH v7 d aA=>?_;simp only[fzw];clear aA;replace h:=h.trans d;replace f:=f.trans d;replace q:=q.trans d;replace A:=A.trans d;replace H:=H.trans d;have J:=d;clear d
 go_upto_region 13 with fail
 refine wp_v false [.c (pv ((L 8 0).2) 0),.c (.int .i64 y),.c (.tuple #[.agg (pnt 0 0 false),.int .i64 1603]),.c (.tuple #[.agg (pnt 0 0 false),.int .i64 1603]),.c (.agg (pnt 0 0 false)),.c (.int .i64 1603),.a,.u,.c (.int .i64 1603)] [2] [⟨6,7,35,pnt 0 0 false,fun _=>pnt 0 0 false⟩] ⟨.k _ fun K I d W=>RtW.of_c (Rt.c (pickE (C.gr (A.trans d)) (.pointer none) hy)),⟨⟩⟩ ⟨.k zPnt (.t rfl),⟨⟩⟩ fun Y v8 d aB aj=>?_;simp only[fzw,Kw.a];obtain⟨⟨aC,V⟩,-⟩:(v7.heap.size≤(Y 6 0).2∧Vr v8 (Y 6 0).2 (pnt 0 0 false))∧True:=aj;clear aB;replace h:=h.trans d;replace J:=J.trans d;replace f:=f.trans d;replace q:=q.trans d;replace A:=A.trans d;replace H:=H.trans d;clear d
 go_upto_region 14 with fail
 refine wp_wS [.O,.O,.T,.T,.c (pv ((L 8 0).2) 0),.c (.int .i64 (n:Nat)),.c (.int .i64 x),.T,.T,.T,.c (.agg (pnt 0 0 true)),.c (.agg (pnt 0 0 true)),.T,.T,.T,.c (.int .i64 1603),.c (.int .i64 1603),.T,.T,.T,.c (.int .i64 1603),.c (.int .i64 1603),.F,.c (.int .i64 y),.T,.T,.c (.int .i64 y),.c (.int .i64 x),.F,.F,.T,.T,.T] [1,5,7,10,12,16,21,24,28] ?hs43 ?hf43
 case hs43=>
  exact⟨.y (num_any _),.k _ fun K I d W=>RtW.of_c (Rt.c (sizeT (C.gr (A.trans d)))),.s (.binOp .eql 3 (.const (.int .i64 (n:Nat))) (.const (.int .i64 x)) 3) rfl fun I d=>by simp[go_sem,exI,hx],.g 35 0 (S.gr h) rfl,.s (.binOp .eql 35 (.const (.agg (pnt 0 0 true))) (.const (.agg (pnt 0 0 true))) 35) rfl fun I d=>by simp[go_sem,exI,eqPn,eqN_self],.y (num_any _),.y (num_any _),.s (.binOp .geq 3 (.const (.int .i64 y)) (.const (.int .i64 0)) 3) rfl fun I d=>by simp[go_sem,exI,y1],.s (.binOp .lss 3 (.const (.int .i64 y)) (.const (.int .i64 x)) 3) rfl fun I d=>by simp[go_sem,exI,y2],⟨⟩⟩
 intro aI v9 d aD;simp only[fzw];clear aD;replace h:=h.trans d;replace J:=J.trans d;replace f:=f.trans d;replace q:=q.trans d;replace A:=A.trans d;replace H:=H.trans d;have ak:=d;clear d;replace G:=G.trans f;replace c9:=c9.gr f;replace HQ:=fun k=>(HQ k).gr f;replace B:=B.gr q;replace C:=C.gr A;replace D:=D.gr H;replace S:=S.gr h;replace U:=U.gr J;replace V:=V.gr ak;clear h J ak f q A H
 go_wp2_with fail
 go_ret
 exact⟨rfl,G⟩
theorem ltsizes_any(id x y:Int)(w:World):Cg 4 #[.int .i64 id,.int .i64 x,.int .i64 y] w (.bool true):=by
 by_cases x1:x<1
 ·exact ltsizes_0 id x x1 y w
 by_cases x2:16<x
 ·exact ltsizes_1 id x x1 x2 y w
 have d:(x.toNat:Int)=x:=by omega
 have f:1≤x.toNat∧x.toNat≤16:=by omega
 by_cases y1:y<0
 ·exact ltsizes_3 id f d y1 w
 by_cases y2:y<x
 ·exact ltsizes_2 id f d (i:=y.toNat) (by omega) (by omega) w
 ·exact ltsizes_4 id f d (by omega) (by omega) w
end
end
end Go.Proofs.YtffhepbppiocbacGreat