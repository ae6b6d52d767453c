import Derived.Test.YtffhepbppiocbacGreatXMQG
namespace Go.Proofs.YtffhepbppiocbacGreat
open Go.RowKit Go.Proofs.Tryz
set_option maxRecDepth 100000
set_option maxHeartbeats 8000000
section
attribute [local go_sem ↓] uz1
attribute [local go_sem] uz2
section
attribute [local go_sem] uz8
attribute [local go_sem ↓] uz17 Go.wp_at_zero Go.wp_at_succ
attribute [local go_sem] uz18
theorem oN_3(i:Nat)(h1:1≤i)(h2:i≤15):3<oN i:=by
 obtain rfl|rfl|rfl|rfl|rfl|rfl|rfl|rfl|rfl|rfl|rfl|rfl|rfl|rfl|rfl:i=1∨i=2∨i=3∨i=4∨i=5∨i=6∨i=7∨i=8∨i=9∨i=10∨i=11∨i=12∨i=13∨i=14∨i=15:=by omega
 all_goals decide +kernel
theorem lqends_any(id:Int)(n:Nat)(hn:n<18446744073709551616)(w:World):Cg 8 #[.int .i64 id,.int .u64 n] w (.bool true):=by
 obtain⟨u,hu,ay,hk⟩:=idx_conv id;have ag:=idx_bd id;obtain⟨k,ah⟩:=exl (idx id);rw[ah]at hk ag;obtain⟨C,D⟩:=ag
 have u0:(0:Int)≤u:=by omega
 have az:(1:Int)+u%15=k:=by omega
 have aA:IntKind.i64.wrap ((u:Int)%15)=(u:Int)%15:=by rw[IntKind.wrap_i64];omega
 have aB:IntKind.u64.wrap ((u:Int)%15)=(u:Int)%15:=by rw[IntKind.wrap_u64];omega
 have aC:(u:Int).tmod 15=(u:Int)%15:=by rw[Int.tmod_eq_emod_of_nonneg (by omega)]
 have k0:(1:Int)≤k:=by omega
 have k1:(k:Int)≤15:=by omega
 have aD:id%18446744073709551616=(u:Int):=by rw[←hu,IntKind.wrap_u64]
 clear ah hk;have ai:Hid (∀w,Calls prog 16 #[.int .i64 k] w (GetQ k w)):=fun w=>getq_yes k C D w;have aj:Hid (∀w,Cg 34 #[] w (.bool true)):=fun w=>awake18_any w
 go_enter func8,ntmps8
 go_upto_region 4 with (first
  | (go_at_call 34;refine(aj.out _).mono ?_;rintro e WA ⟨rfl,GA⟩)
  | (go_at_call 16;refine(ai.out _).mono ?_;rintro e WB ⟨J,rfl,HQ,GB⟩))
 obtain⟨e9,af⟩:=exl (WB.heap.size);simp only[af]
 refine gen_w (fun v=>Gr w v∧Vr v e9 (crA (k:Int) (nN k) J)∧(∀j,Sl v (J j).1 (nN k j))) ?_ ?_
 ·subst af;have g1:Gr WB (WB.alloc (.cells (crA (k:Int) (nN k) J) 27)):=(Gr.refl _).alloc _;exact⟨(GA.trans GB).trans g1,Vr.new _ _ _,fun j=>(HQ j).gr g1⟩
 clear af GA GB HQ aj ai hu ay az aA aB aC aD u0 k0 k1;rintro v0 ⟨G,c9,HQ⟩;have hM:n<M:=lt_M _ hn
 have hd:dl n≤400:=by have:=dl_M n hM;omega
 obtain⟨P,hP⟩:=exl (mlQ k n (gQ k));have oP:OnQ k P:=hP▸mlQ_on C D _ (gQ_on C D);have aE:=ml_N C D hP;have aW:=EC.oN_pos k C D;obtain⟨N,hN⟩:=exl (ngQ k P);obtain⟨m1,ak⟩:=exl (oN k-1);have aG:mlQ k m1 P=N:=(ml_pred C D oP aE ak).trans hN
 have aH:dl (oN k)≤400:=by have:=oN_dl k;omega
 have ao:∀w,(bslS 25 1 #[(0,.int .u32 1)]).run prog w=.ok (.slice (some ⟨w.heap.size,0,none⟩) 1 1) (w.alloc (.cells (nd 1 1) 71)):=fun w=>build1 1 (by decide) w
 have l0:0<oN k:=by omega
 have l1:1<oN k:=by omega
 have l3:3<oN k:=oN_3 k C D
 have lm:m1<oN k:=by omega
 refine wp_wS [.T,.F] [] ⟨⟩ fun a0 v1 f h4=>?_;simp only[fzw];clear h4;have x:=f;clear f
 go_upto_region 6 with fail
 refine wp_v true [.c (.agg (crA (k:Int) (nN k) J)),.c (.int .u64 n),.N n,.n (n),.c (.agg (crA (k:Int) (nN k) J)),.pt (xN k) (yN k) false,.pt (P.1) (P.2.1) P.2.2,.a,.u] [0,2,3,4,5,6] [⟨7,8,38,ptA none 0 0 none 0 0 false,fun q=>ptA (q 6 0).1 (P.1) (q 6 0).2 (q 6 1).1 (P.2.1) (q 6 1).2 P.2.2⟩] ⟨.g 27 0 (c9.gr x) rfl,.z (one_any _ hn),.k _ fun q Y f S=>RtW.of_n (fm_any hM),.g 27 0 (c9.gr x) rfl,.k _ fun q Y f S=>RtW.of_pt (rg_any J _ (fun j=>(HQ j).gr (x.trans f))),.k (fun q =>#[.agg (crA (k:Int) (nN k) J),.slice (q 3 0).1 (dl (n)) (q 3 0).2,.agg (ptA (q 5 0).1 (xN k) (q 5 0).2 (q 5 1).1 (yN k) (q 5 1).2 false)]) fun q Y f S=>RtW.of_pt (hP▸rtimesQ k C D J (gQ_on C D) hd (fun j=>(HQ j).gr (x.trans f)) (S 3 rfl) (S 5 rfl).1 (S 5 rfl).2),⟨⟩⟩ ⟨.mk (fun _ _ h=>Value.agg.inj (h 6 rfl)) (fun _ v b H F=>by dsimp only at H ⊢;simp[go_sem,exI,H,F]) zPt ⟨fkc,fkc,fkc,fkn bPt,fkc,fkp bPt,fkp bPt,fka,fku,trivial⟩,⟨⟩⟩ fun i v2 f h6 aI=>?_;simp only[fzw,Kw.a];obtain⟨U,V⟩:Sl v2 (i 6 0).1 (P.1)∧Sl v2 (i 6 1).1 (P.2.1):=h6 6;obtain⟨⟨aR,W⟩,-⟩:(v1.heap.size≤(i 7 0).2∧Vr v2 (i 7 0).2 (ptA (i 6 0).1 (P.1) (i 6 0).2 (i 6 1).1 (P.2.1) (i 6 1).2 P.2.2))∧True:=aI;clear h6;replace x:=x.trans f;clear f
 go_upto_region 7 with fail
 refine wp_v false [.c (.agg (ptA (i 6 0).1 (P.1) (i 6 0).2 (i 6 1).1 (P.2.1) (i 6 1).2 P.2.2)),.c (.agg (pnQ P)),.a,.u] [0,1] [⟨2,3,35,pnt 0 0 false,fun _=>pnQ P⟩] ⟨.g 38 0 W rfl,.k (fun q =>#[.agg (ptA (i 6 0).1 (P.1) (i 6 0).2 (i 6 1).1 (P.2.1) (i 6 1).2 P.2.2)]) fun q Y f S=>RtW.of_c (Rt.c (rout_any _ _ _ _ _ _ _ _ (U.gr f) (V.gr f))),⟨⟩⟩ ⟨.k zPnt (.t rfl),⟨⟩⟩ fun ap v3 f h7 aJ=>?_;simp only[fzw,Kw.a];obtain⟨⟨aS,A⟩,-⟩:(v2.heap.size≤(ap 2 0).2∧Vr v3 (ap 2 0).2 (pnQ P))∧True:=aJ;clear h7;replace x:=x.trans f;have I:=f;clear f
 go_upto_region 8 with fail
 refine wp_v false [.c (pv e9 0),.c (.int .i64 k),.N 0,.c (.agg (pnQ P)),.E (.agg (pnt 0 0 true)),.E (.agg (pnt 0 0 true)),.c (.agg (pnt 0 0 true)),.O,.a,.u,.O] [1,3,4] [⟨8,9,35,pnt 0 0 false,fun _=>pnt 0 0 true⟩] ⟨.o 3 0 (c9.gr x) rfl rfl,.g 35 0 A rfl,.z (mulM C D (P:=P) oP (d:=0) l0 (Q:=inf) (mlQ_zero C D P)),⟨⟩⟩ ⟨.k zPnt (.t rfl),⟨⟩⟩ fun aq v4 f h8 aK=>?_;simp only[fzw,Kw.a];obtain⟨⟨aT,Z⟩,-⟩:(v3.heap.size≤(aq 8 0).2∧Vr v4 (aq 8 0).2 (pnt 0 0 true))∧True:=aK;clear h8;replace x:=x.trans f;replace I:=I.trans f;have X:=f;clear f
 go_upto_region 9 with fail
 refine wp_v true [.c (pv e9 0),.c (.int .i64 k),.N 1,.c (.agg (pnQ P)),.E (.agg (pnQ P)),.E (.agg (pnQ P)),.c (.agg (pnQ P)),.O,.a,.u,.O] [1,2,3,4] [⟨8,9,35,pnt 0 0 false,fun _=>pnQ P⟩] ⟨.o 3 0 (c9.gr x) rfl rfl,.z (one_any 1 (by decide)),.g 35 0 (A.gr X) rfl,.z (mulM C D (P:=P) oP (d:=1) l1 (Q:=P) (mlQ_one C D oP)),⟨⟩⟩ ⟨.k zPnt (.t rfl),⟨⟩⟩ fun ar v5 f h9 aL=>?_;simp only[fzw,Kw.a];obtain⟨⟨aU,aa⟩,-⟩:(v4.heap.size≤(ar 8 0).2∧Vr v5 (ar 8 0).2 (pnQ P))∧True:=aL;clear h9;replace x:=x.trans f;replace I:=I.trans f;replace X:=X.trans f;have g9:=f;clear f
 go_upto_region 10 with fail
 refine wp_v true [.c (pv e9 0),.c (.int .i64 k),.c (pv e9 4),.c (.slice (J 3).1 (dl (oN k)) (J 3).2),.n (1),.n (m1),.N m1,.c (.agg (pnQ P)),.E (.agg (pnQ N)),.E (.agg (pnQ N)),.c (.agg (pnQ N)),.O,.a,.u,.O] [1,3,4,5,6,7,8] [⟨12,13,35,pnt 0 0 false,fun _=>pnQ N⟩] ⟨.o 3 0 (c9.gr x) rfl rfl,.o 25 4 (c9.gr x) rfl rfl,.b (.buildSlice 25 1 #[(0,.const (.int .u32 1))]) rfl rfl (fun Y=>by simp[go_sem,exI,ao];rfl) (sl_lit 1 (by decide)),.k (fun q =>#[.slice (J 3).1 (dl (oN k)) (J 3).2,.slice (q 4 0).1 (dl (1)) (q 4 0).2]) fun q Y f S=>RtW.of_n (sb_any ((HQ 3).gr (x.trans f)) (S 4 rfl) aH (by omega) ak),.k (fun q =>#[.slice (q 5 0).1 (dl (m1)) (q 5 0).2]) fun q Y f S=>RtW.of_c (nt_any (S 5 rfl)),.g 35 0 (A.gr X) rfl,.z (mulM C D (P:=P) oP (d:=m1) lm (Q:=N) aG),⟨⟩⟩ ⟨.k zPnt ⟨fkc,fkc,fkc,fkc,fkn bPnt,fkn bPnt,fkc,fkc,fkc,fkc,fkc,fkc,fka,fku,fkc,trivial⟩,⟨⟩⟩ fun ac v6 f aM au=>?_;simp only[fzw,Kw.a];obtain⟨⟨ax,B⟩,-⟩:(v5.heap.size≤(ac 12 0).2∧Vr v6 (ac 12 0).2 (pnQ N))∧True:=au;clear aM;replace x:=x.trans f;replace I:=I.trans f;replace X:=X.trans f;replace g9:=g9.trans f;have K:=f;clear f
 go_upto_region 11 with fail
 refine wp_v true [.c (pv e9 0),.c (.int .i64 k),.N 3,.c (.agg (pnt 0 0 true)),.E (.agg (pnt 0 0 true)),.E (.agg (pnt 0 0 true)),.c (.agg (pnt 0 0 true)),.O,.a,.u,.O] [1,2,4] [⟨8,9,35,pnt 0 0 false,fun _=>pnt 0 0 true⟩] ⟨.o 3 0 (c9.gr x) rfl rfl,.z (one_any 3 (by decide)),.z (mulM C D (P:=inf) (inf_on k) (d:=3) l3 (Q:=inf) (mlQ_inf C D 3)),⟨⟩⟩ ⟨.k zPnt (.t rfl),⟨⟩⟩ fun ae v7 f aO av=>?_;simp only[fzw,Kw.a];obtain⟨⟨aP,L⟩,-⟩:(v6.heap.size≤(ae 8 0).2∧Vr v7 (ae 8 0).2 (pnt 0 0 true))∧True:=av;clear aO;replace K:=K.trans f;replace x:=x.trans f;replace I:=I.trans f;replace X:=X.trans f;replace g9:=g9.trans f;have ab:=f;clear f
 go_upto_region 12 with fail
 refine wp_w [.O,.O,.T,.T,.O,.O,.T,.T,.T,.O,.O,.T,.T,.T,.O,.O,.T,.T,.T,.c (.agg (pnt 0 0 true)),.c (.agg (pnt 0 0 true)),.T,.T,.T,.c (.agg (pnQ P)),.c (.agg (pnQ P)),.T,.T,.T,.c (.agg (pnQ N)),.c (.agg (crA (k:Int) (nN k) J)),.c (.agg (ptA (i 6 0).1 (P.1) (i 6 0).2 (i 6 1).1 (P.2.1) (i 6 1).2 P.2.2)),.pt (N.1) (N.2.1) N.2.2,.c (.agg (pnQ N)),.T,.T,.T,.c (.agg (pnt 0 0 true)),.c (.agg (pnt 0 0 true)),.T,.T,.T] [1,5,10,15,19,21,24,25,26,29,30,31,32,33,34,37,39] ?hs8 ?hf8
 case hs8=>
  exact⟨.y (num_any _),.y (num_any _),.y (num_any _),.y (num_any _),.g 35 0 (Z.gr g9) rfl,.s (.binOp .eql 35 (.const (.agg (pnt 0 0 true))) (.const (.agg (pnt 0 0 true))) 35) rfl fun Y f=>by simp[go_sem,exI,eqPn,eqN_self],.g 35 0 (aa.gr K) rfl,.g 35 0 (A.gr X) rfl,.s (.binOp .eql 35 (.const (.agg (pnQ P))) (.const (.agg (pnQ P))) 35) rfl fun Y f=>by simp[go_sem,exI,eqPn,eqN_self],.g 35 0 (B.gr ab) rfl,.g 27 0 (c9.gr x) rfl,.g 38 0 (W.gr I) rfl,.k (fun q =>#[.agg (crA (k:Int) (nN k) J),.agg (ptA (i 6 0).1 (P.1) (i 6 0).2 (i 6 1).1 (P.2.1) (i 6 1).2 P.2.2)]) fun q Y f S=>RtW.of_pt (hN▸rnegQ k C D J oP (fun j=>(HQ j).gr (x.trans f)) (U.gr (I.trans f)) (V.gr (I.trans f))),.k (fun q =>#[.agg (ptA (q 32 0).1 (N.1) (q 32 0).2 (q 32 1).1 (N.2.1) (q 32 1).2 N.2.2)]) fun q Y f S=>RtW.of_c (Rt.c (rout_any _ _ _ _ _ _ _ _ (S 32 rfl).1 (S 32 rfl).2)),.s (.binOp .eql 35 (.const (.agg (pnQ N))) (.const (.agg (pnQ N))) 35) rfl fun Y f=>by simp[go_sem,exI,eqPn,eqN_self],.g 35 0 L rfl,.s (.binOp .eql 35 (.const (.agg (pnt 0 0 true))) (.const (.agg (pnt 0 0 true))) 35) rfl fun Y f=>by simp[go_sem,exI,eqPn,eqN_self],⟨⟩⟩
 intro aV v8 f aQ;simp only[fzw];clear aQ;replace K:=K.trans f;replace ab:=ab.trans f;replace x:=x.trans f;replace I:=I.trans f;replace X:=X.trans f;replace g9:=g9.trans f;have aw:=f;clear f;replace G:=G.trans x;replace c9:=c9.gr x;replace HQ:=fun k=>(HQ k).gr x;replace W:=W.gr I;replace U:=U.gr I;replace V:=V.gr I;replace A:=A.gr X;replace Z:=Z.gr g9;replace aa:=aa.gr K;replace B:=B.gr ab;replace L:=L.gr aw;clear K ab aw x I X g9
 go_wp2_with fail
 go_ret
 exact⟨rfl,G⟩
end
end
end Go.Proofs.YtffhepbppiocbacGreat