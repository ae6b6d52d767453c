import Derived.Test.YtffhepbppiocbacGreatXMQG
namespace Go.Proofs.YtffhepbppiocbacGreat
open Go.RowKit Go.Proofs.Tryz
set_option maxRecDepth 100000
set_option maxHeartbeats 8000000
section
attribute [local go_sem ↓] uz1
attribute [local go_sem] uz2
section
attribute [local go_sem] uz8
attribute [local go_sem ↓] uz17 Go.wp_at_zero Go.wp_at_succ
attribute [local go_sem] uz18
theorem lqtwice_any(id:Int)(a b:Nat)(la:a<M)(lb:b<M)(n:Nat)(hn:n<18446744073709551616)(w:World):Cg 10 #[.int .i64 id,.agg (nw 9 a),.agg (nw 9 b),.int .u64 n] w (.bool true):=by
 obtain⟨u,hu,aD,hk⟩:=idx_conv id;have ao:=idx_bd id;obtain⟨k,ap⟩:=exl (idx id);rw[ap]at hk ao;obtain⟨H,I⟩:=ao
 have u0:(0:Int)≤u:=by omega
 have aE:(1:Int)+u%15=k:=by omega
 have aG:IntKind.i64.wrap ((u:Int)%15)=(u:Int)%15:=by rw[IntKind.wrap_i64];omega
 have aH:IntKind.u64.wrap ((u:Int)%15)=(u:Int)%15:=by rw[IntKind.wrap_u64];omega
 have aI:(u:Int).tmod 15=(u:Int)%15:=by rw[Int.tmod_eq_emod_of_nonneg (by omega)]
 have k0:(1:Int)≤k:=by omega
 have k1:(k:Int)≤15:=by omega
 have aJ:id%18446744073709551616=(u:Int):=by rw[←hu,IntKind.wrap_u64]
 clear ap hk;have aq:Hid (∀w,Calls prog 16 #[.int .i64 k] w (GetQ k w)):=fun w=>getq_yes k H I w;have ar:Hid (∀w,Cg 34 #[] w (.bool true)):=fun w=>awake18_any w
 go_enter func10,ntmps10
 go_upto_region 1 with fail
 refine gen_w (fun v=>Hid (Gr w v∧Vr v (w.heap.size) (nw 9 a)∧Vr v (w.heap.size+1) (nw 9 b))) ⟨grA,vrA,vrA⟩ ?_;intro u0 HV
 go_upto_region 4 with (first
  | (go_at_call 34;refine(ar.out _).mono ?_;rintro e WA ⟨rfl,GA⟩)
  | (go_at_call 16;refine(aq.out _).mono ?_;rintro e WB ⟨W,rfl,HQ,GB⟩))
 obtain⟨e9,ak⟩:=exl (WB.heap.size);simp only[ak]
 refine gen_w (fun v=>Gr w v∧Vr v e9 (crA (k:Int) (nN k) W)∧(∀j,Sl v (W j).1 (nN k j))∧Vr v (w.heap.size) (nw 9 a)∧Vr v (w.heap.size+1) (nw 9 b)) ?_ ?_
 ·subst ak;have g1:Gr WB (WB.alloc (.cells (crA (k:Int) (nN k) W) 27)):=(Gr.refl _).alloc _;obtain⟨G,c0,c1⟩:=HV.out;have g2:=(GA.trans GB).trans g1;exact⟨G.trans g2,Vr.new _ _ _,fun j=>(HQ j).gr g1,c0.gr g2,c1.gr g2⟩
 clear ak GA GB HQ ar aq hu aD aE aG aH aI aJ u0 k0 k1 HV;rintro v0 ⟨G,c9,HQ,c0,c1⟩;have hM:n<M:=lt_M _ hn
 have hd:dl n≤400:=by have:=dl_M n hM;omega
 obtain⟨P,hP⟩:=exl (mlQ k n (gQ k));have oP:OnQ k P:=hP▸mlQ_on H I _ (gQ_on H I);have au:=ml_N H I hP;have ba:=EC.oN_pos k H I;obtain⟨x,dx⟩:=exl (a%oN k);obtain⟨y,dy⟩:=exl (b%oN k);have qx:x<oN k:=dx▸Nat.mod_lt _ (by omega);have qy:y<oN k:=dy▸Nat.mod_lt _ (by omega);have lx:=Nat.lt_trans qx (oN_bd k);have ly:=Nat.lt_trans qy (oN_bd k)
 have aK:dl (oN k)≤400:=by have:=oN_dl k;omega
 obtain⟨m,hm⟩:=exl (x*y%oN k);have mN:m<oN k:=hm▸Nat.mod_lt _ (by omega);obtain⟨U,hU⟩:=exl (mlQ k x P);have oU:OnQ k U:=hU▸mlQ_on H I _ oP;obtain⟨V,hV⟩:=exl (mlQ k y P);have oV:OnQ k V:=hV▸mlQ_on H I _ oP;obtain⟨T,hT⟩:=exl (mlQ k m P)
 have aL:mlQ k x V=T:=by rw[←hV,mul_modQ H I oP au hm,hT]
 have aM:mlQ k y U=T:=by rw[←hU,mul_modQ H I oP au ((congrArg (· % oN k) (Nat.mul_comm y x)).trans hm),hT]
 refine wp_wS [.T,.F] [] ⟨⟩ fun bb v1 f h4=>?_;simp only[fzw];clear h4;have h:=f;clear f
 go_upto_region 6 with fail
 refine wp_v true [.c (.agg (crA (k:Int) (nN k) W)),.c (.int .u64 n),.N n,.n (n),.c (.agg (crA (k:Int) (nN k) W)),.pt (xN k) (yN k) false,.pt (P.1) (P.2.1) P.2.2,.c (.agg (pnQ P)),.a,.u] [0,2,3,4,5,6,7] [⟨8,9,35,pnt 0 0 false,fun _=>pnQ P⟩] ⟨.g 27 0 (c9.gr h) rfl,.z (one_any _ hn),.k _ fun i vv f J=>RtW.of_n (fm_any hM),.g 27 0 (c9.gr h) rfl,.k _ fun i vv f J=>RtW.of_pt (rg_any W _ (fun j=>(HQ j).gr (h.trans f))),.k (fun i =>#[.agg (crA (k:Int) (nN k) W),.slice (i 3 0).1 (dl (n)) (i 3 0).2,.agg (ptA (i 5 0).1 (xN k) (i 5 0).2 (i 5 1).1 (yN k) (i 5 1).2 false)]) fun i vv f J=>RtW.of_pt (hP▸rtimesQ k H I W (gQ_on H I) hd (fun j=>(HQ j).gr (h.trans f)) (J 3 rfl) (J 5 rfl).1 (J 5 rfl).2),.k (fun i =>#[.agg (ptA (i 6 0).1 (P.1) (i 6 0).2 (i 6 1).1 (P.2.1) (i 6 1).2 P.2.2)]) fun i vv f J=>RtW.of_c (Rt.c (rout_any _ _ _ _ _ _ _ _ (J 6 rfl).1 (J 6 rfl).2)),⟨⟩⟩ ⟨.k zPnt ⟨fkc,fkc,fkc,fkn bPnt,fkc,fkp bPnt,fkp bPnt,fkc,fka,fku,trivial⟩,⟨⟩⟩ fun av v2 f h6 aO=>?_;simp only[fzw,Kw.a];obtain⟨⟨a4,K⟩,-⟩:(v1.heap.size≤(av 8 0).2∧Vr v2 (av 8 0).2 (pnQ P))∧True:=aO;clear h6;replace h:=h.trans f;clear f
 go_upto_region 7 with fail
 refine wp_v true [.c (.agg (crA (k:Int) (nN k) W)),.N a,.N x,.c (.agg (crA (k:Int) (nN k) W)),.N b,.N y,.a,.a,.u,.u] [0,1,2,3,4,5] [⟨6,8,33,nw 9 0,fun _=>nw 9 x⟩,⟨7,9,33,nw 9 0,fun _=>nw 9 y⟩] ⟨.g 27 0 (c9.gr h) rfl,.g 33 0 (c0.gr h) rfl,.k _ fun i vv f J=>RtW.of_c (Rt.c (of_any la dx H I W _ (fun j=>(HQ j).gr (h.trans f)))),.g 27 0 (c9.gr h) rfl,.g 33 0 (c1.gr h) rfl,.k _ fun i vv f J=>RtW.of_c (Rt.c (of_any lb dy H I W _ (fun j=>(HQ j).gr (h.trans f)))),⟨⟩⟩ ⟨.k zNat (.t rfl),.k zNat (.t rfl),⟨⟩⟩ fun af v3 f h7 aP=>?_;simp only[fzw,Kw.a];obtain⟨⟨a5,L⟩,⟨a6,S⟩,-⟩:(v2.heap.size≤(af 6 0).2∧Vr v3 (af 6 0).2 (nw 9 x))∧(v2.heap.size≤(af 7 0).2∧Vr v3 (af 7 0).2 (nw 9 y))∧True:=aP;clear h7;replace h:=h.trans f;have A:=f;clear f
 go_upto_region 8 with fail
 refine wp_v true [.N x,.n (x),.N y,.n (y),.c (pv e9 4),.c (.slice (W 3).1 (dl (oN k)) (W 3).2),.n (m),.N m,.a,.u] [0,1,2,3,5,6,7] [⟨8,9,33,nw 9 0,fun _=>nw 9 m⟩] ⟨.g 33 0 L rfl,.k _ fun i vv f J=>RtW.of_n (fm_any lx),.g 33 0 S rfl,.k _ fun i vv f J=>RtW.of_n (fm_any ly),.o 25 4 (c9.gr h) rfl rfl,.k (fun i =>#[.slice (i 1 0).1 (dl (x)) (i 1 0).2,.slice (i 3 0).1 (dl (y)) (i 3 0).2,.slice (W 3).1 (dl (oN k)) (W 3).2]) fun i vv f J=>RtW.of_n (mm_any (J 1 rfl) (J 3 rfl) ((HQ 3).gr (h.trans f)) qx qy aK hm),.k (fun i =>#[.slice (i 6 0).1 (dl (m)) (i 6 0).2]) fun i vv f J=>RtW.of_c (nt_any (J 6 rfl)),⟨⟩⟩ ⟨.k zNat ⟨fkc,fkn bNat,fkc,fkn bNat,fkc,fkc,fkn bNat,fkc,fka,fku,trivial⟩,⟨⟩⟩ fun aw v4 f h8 aQ=>?_;simp only[fzw,Kw.a];obtain⟨⟨a7,ac⟩,-⟩:(v3.heap.size≤(aw 8 0).2∧Vr v4 (aw 8 0).2 (nw 9 m))∧True:=aQ;clear h8;replace h:=h.trans f;replace A:=A.trans f;have B:=f;clear f
 go_upto_region 9 with fail
 refine wp_v false [.c (pv e9 0),.c (.int .i64 k),.N x,.c (.agg (pnQ P)),.E (.agg (pnQ U)),.E (.agg (pnQ U)),.c (.agg (pnQ U)),.O,.a,.u,.O] [1,2,3,4] [⟨8,9,35,pnt 0 0 false,fun _=>pnQ U⟩] ⟨.o 3 0 (c9.gr h) rfl rfl,.g 33 0 (L.gr B) rfl,.g 35 0 (K.gr A) rfl,.z (mulM H I (P:=P) oP (d:=x) qx (Q:=U) hU),⟨⟩⟩ ⟨.k zPnt (.t rfl),⟨⟩⟩ fun ax v5 f h9 aR=>?_;simp only[fzw,Kw.a];obtain⟨⟨a8,ae⟩,-⟩:(v4.heap.size≤(ax 8 0).2∧Vr v5 (ax 8 0).2 (pnQ U))∧True:=aR;clear h9;replace h:=h.trans f;replace A:=A.trans f;replace B:=B.trans f;have g9:=f;clear f
 go_upto_region 10 with fail
 refine wp_v false [.c (pv e9 0),.c (.int .i64 k),.N y,.c (.agg (pnQ U)),.E (.agg (pnQ T)),.E (.agg (pnQ T)),.c (.agg (pnQ T)),.O,.a,.u,.O] [1,2,3,4] [⟨8,9,35,pnt 0 0 false,fun _=>pnQ T⟩] ⟨.o 3 0 (c9.gr h) rfl rfl,.g 33 0 (S.gr B) rfl,.g 35 0 ae rfl,.z (mulM H I (P:=U) oU (d:=y) qy (Q:=T) aM),⟨⟩⟩ ⟨.k zPnt (.t rfl),⟨⟩⟩ fun ag v6 f aS ay=>?_;simp only[fzw,Kw.a];obtain⟨⟨aT,X⟩,-⟩:(v5.heap.size≤(ag 8 0).2∧Vr v6 (ag 8 0).2 (pnQ T))∧True:=ay;clear aS;replace h:=h.trans f;replace A:=A.trans f;replace B:=B.trans f;replace g9:=g9.trans f;have q:=f;clear f
 go_upto_region 11 with fail
 refine wp_v false [.c (pv e9 0),.c (.int .i64 k),.N y,.c (.agg (pnQ P)),.E (.agg (pnQ V)),.E (.agg (pnQ V)),.c (.agg (pnQ V)),.O,.a,.u,.O] [1,2,3,4] [⟨8,9,35,pnt 0 0 false,fun _=>pnQ V⟩] ⟨.o 3 0 (c9.gr h) rfl rfl,.g 33 0 (S.gr B) rfl,.g 35 0 (K.gr A) rfl,.z (mulM H I (P:=P) oP (d:=y) qy (Q:=V) hV),⟨⟩⟩ ⟨.k zPnt (.t rfl),⟨⟩⟩ fun ah v7 f aU az=>?_;simp only[fzw,Kw.a];obtain⟨⟨aV,Y⟩,-⟩:(v6.heap.size≤(ah 8 0).2∧Vr v7 (ah 8 0).2 (pnQ V))∧True:=az;clear aU;replace q:=q.trans f;replace h:=h.trans f;replace A:=A.trans f;replace B:=B.trans f;replace g9:=g9.trans f;have C:=f;clear f
 go_upto_region 12 with fail
 refine wp_v false [.c (pv e9 0),.c (.int .i64 k),.N x,.c (.agg (pnQ V)),.E (.agg (pnQ T)),.E (.agg (pnQ T)),.c (.agg (pnQ T)),.O,.a,.u,.O] [1,2,3,4] [⟨8,9,35,pnt 0 0 false,fun _=>pnQ T⟩] ⟨.o 3 0 (c9.gr h) rfl rfl,.g 33 0 (L.gr B) rfl,.g 35 0 Y rfl,.z (mulM H I (P:=V) oV (d:=x) qx (Q:=T) aL),⟨⟩⟩ ⟨.k zPnt (.t rfl),⟨⟩⟩ fun ai v8 f aW aA=>?_;simp only[fzw,Kw.a];obtain⟨⟨a0,D⟩,-⟩:(v7.heap.size≤(ai 8 0).2∧Vr v8 (ai 8 0).2 (pnQ T))∧True:=aA;clear aW;replace q:=q.trans f;replace C:=C.trans f;replace h:=h.trans f;replace A:=A.trans f;replace B:=B.trans f;replace g9:=g9.trans f;have aa:=f;clear f
 go_upto_region 13 with fail
 refine wp_v false [.c (pv e9 0),.c (.int .i64 k),.N m,.c (.agg (pnQ P)),.E (.agg (pnQ T)),.E (.agg (pnQ T)),.c (.agg (pnQ T)),.O,.a,.u,.O] [1,2,3,4] [⟨8,9,35,pnt 0 0 false,fun _=>pnQ T⟩] ⟨.o 3 0 (c9.gr h) rfl rfl,.g 33 0 (ac.gr g9) rfl,.g 35 0 (K.gr A) rfl,.z (mulM H I (P:=P) oP (d:=m) mN (Q:=T) hT),⟨⟩⟩ ⟨.k zPnt (.t rfl),⟨⟩⟩ fun aj v9 f a1 aB=>?_;simp only[fzw,Kw.a];obtain⟨⟨a2,Z⟩,-⟩:(v8.heap.size≤(aj 8 0).2∧Vr v9 (aj 8 0).2 (pnQ T))∧True:=aB;clear a1;replace q:=q.trans f;replace C:=C.trans f;replace aa:=aa.trans f;replace h:=h.trans f;replace A:=A.trans f;replace B:=B.trans f;replace g9:=g9.trans f;have ab:=f;clear f
 go_upto_region 14 with fail
 refine wp_wS [.O,.O,.T,.T,.O,.O,.T,.T,.T,.O,.O,.T,.T,.T,.c (.agg (pnQ T)),.c (.agg (pnQ T)),.T,.T,.T,.c (.agg (pnQ T)),.c (.agg (pnQ T)),.T,.T,.T] [1,5,10,14,15,16,19,20,21] ⟨.y (num_any _),.y (num_any _),.y (num_any _),.g 35 0 (X.gr C) rfl,.g 35 0 (D.gr ab) rfl,.s (.binOp .eql 35 (.const (.agg (pnQ T))) (.const (.agg (pnQ T))) 35) rfl fun vv f=>by simp[go_sem,exI,eqPn,eqN_self],.g 35 0 (D.gr ab) rfl,.g 35 0 Z rfl,.s (.binOp .eql 35 (.const (.agg (pnQ T))) (.const (.agg (pnQ T))) 35) rfl fun vv f=>by simp[go_sem,exI,eqPn,eqN_self],⟨⟩⟩ fun a9 bc f a3=>?_;simp only[fzw];clear a3;replace q:=q.trans f;replace C:=C.trans f;replace aa:=aa.trans f;replace ab:=ab.trans f;replace h:=h.trans f;replace A:=A.trans f;replace B:=B.trans f;replace g9:=g9.trans f;have aC:=f;clear f;replace G:=G.trans h;replace c9:=c9.gr h;replace c0:=c0.gr h;replace c1:=c1.gr h;replace HQ:=fun k=>(HQ k).gr h;replace K:=K.gr A;replace L:=L.gr B;replace S:=S.gr B;replace ac:=ac.gr g9;replace ae:=ae.gr q;replace X:=X.gr C;replace Y:=Y.gr aa;replace D:=D.gr ab;replace Z:=Z.gr aC;clear q C aa ab aC h A B g9
 go_wp2_with fail
 go_ret
 exact⟨rfl,G⟩
end
end
end Go.Proofs.YtffhepbppiocbacGreat