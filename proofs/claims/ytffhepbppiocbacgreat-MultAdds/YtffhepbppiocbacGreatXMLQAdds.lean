import Derived.Test.YtffhepbppiocbacGreatXMQG
namespace Go.Proofs.YtffhepbppiocbacGreat
open Go.RowKit Go.Proofs.Tryz
set_option maxRecDepth 100000
set_option maxHeartbeats 8000000
section
attribute [local go_sem ↓] uz1
attribute [local go_sem] uz2
section
attribute [local go_sem] uz8
attribute [local go_sem ↓] uz17 Go.wp_at_zero Go.wp_at_succ
attribute [local go_sem] uz18
theorem lqadds_any(id:Int)(a b:Nat)(la:a<M)(lb:b<M)(n:Nat)(hn:n<18446744073709551616)(w:World):Cg 9 #[.int .i64 id,.agg (nw 9 a),.agg (nw 9 b),.int .u64 n] w (.bool true):=by
 obtain⟨u,hu,az,hk⟩:=idx_conv id;have aj:=idx_bd id;obtain⟨k,ak⟩:=exl (idx id);rw[ak]at hk aj;obtain⟨D,H⟩:=aj
 have u0:(0:Int)≤u:=by omega
 have aA:(1:Int)+u%15=k:=by omega
 have aB:IntKind.i64.wrap ((u:Int)%15)=(u:Int)%15:=by rw[IntKind.wrap_i64];omega
 have aC:IntKind.u64.wrap ((u:Int)%15)=(u:Int)%15:=by rw[IntKind.wrap_u64];omega
 have aD:(u:Int).tmod 15=(u:Int)%15:=by rw[Int.tmod_eq_emod_of_nonneg (by omega)]
 have k0:(1:Int)≤k:=by omega
 have k1:(k:Int)≤15:=by omega
 have aE:id%18446744073709551616=(u:Int):=by rw[←hu,IntKind.wrap_u64]
 clear ak hk;have ao:Hid (∀w,Calls prog 16 #[.int .i64 k] w (GetQ k w)):=fun w=>getq_yes k D H w;have ap:Hid (∀w,Cg 34 #[] w (.bool true)):=fun w=>awake18_any w
 go_enter func9,ntmps9
 go_upto_region 1 with fail
 refine gen_w (fun v=>Hid (Gr w v∧Vr v (w.heap.size) (nw 9 a)∧Vr v (w.heap.size+1) (nw 9 b))) ⟨grA,vrA,vrA⟩ ?_;intro u0 HV
 go_upto_region 4 with (first
  | (go_at_call 34;refine(ap.out _).mono ?_;rintro e WA ⟨rfl,GA⟩)
  | (go_at_call 16;refine(ao.out _).mono ?_;rintro e WB ⟨I,rfl,HQ,GB⟩))
 obtain⟨e9,ai⟩:=exl (WB.heap.size);simp only[ai]
 refine gen_w (fun v=>Gr w v∧Vr v e9 (crA (k:Int) (nN k) I)∧(∀j,Sl v (I j).1 (nN k j))∧Vr v (w.heap.size) (nw 9 a)∧Vr v (w.heap.size+1) (nw 9 b)) ?_ ?_
 ·subst ai;have g1:Gr WB (WB.alloc (.cells (crA (k:Int) (nN k) I) 27)):=(Gr.refl _).alloc _;obtain⟨G,c0,c1⟩:=HV.out;have g2:=(GA.trans GB).trans g1;exact⟨G.trans g2,Vr.new _ _ _,fun j=>(HQ j).gr g1,c0.gr g2,c1.gr g2⟩
 clear ai GA GB HQ ap ao hu az aA aB aC aD aE u0 k0 k1 HV;rintro v0 ⟨G,Z,HQ,c0,c1⟩;have hM:n<M:=lt_M _ hn
 have hd:dl n≤400:=by have:=dl_M n hM;omega
 obtain⟨P,hP⟩:=exl (mlQ k n (gQ k));have oP:OnQ k P:=hP▸mlQ_on D H _ (gQ_on D H);have aG:=ml_N D H hP;have a4:=EC.oN_pos k D H;obtain⟨x,dx⟩:=exl (a%oN k);obtain⟨y,dy⟩:=exl (b%oN k);have qx:x<oN k:=dx▸Nat.mod_lt _ (by omega);have qy:y<oN k:=dy▸Nat.mod_lt _ (by omega);have lx:=Nat.lt_trans qx (oN_bd k);have ly:=Nat.lt_trans qy (oN_bd k)
 have aH:dl (oN k)≤400:=by have:=oN_dl k;omega
 obtain⟨m,hm⟩:=exl ((x+y)%oN k);have mN:m<oN k:=hm▸Nat.mod_lt _ (by omega);obtain⟨U,hU⟩:=exl (mlQ k x P);have oU:OnQ k U:=hU▸mlQ_on D H _ oP;obtain⟨V,hV⟩:=exl (mlQ k y P);have oV:OnQ k V:=hV▸mlQ_on D H _ oP;obtain⟨T,hT⟩:=exl (mlQ k m P)
 have aI:plQ k U V=T:=by rw[←hU,←hV,add_modQ D H oP aG hm,hT]
 refine wp_wS [.T,.F] [] ⟨⟩ fun a5 v1 f h4=>?_;simp only[fzw];clear h4;have h:=f;clear f
 go_upto_region 6 with fail
 refine wp_v true [.c (.agg (crA (k:Int) (nN k) I)),.c (.int .u64 n),.N n,.n (n),.c (.agg (crA (k:Int) (nN k) I)),.pt (xN k) (yN k) false,.pt (P.1) (P.2.1) P.2.2,.c (.agg (pnQ P)),.a,.u] [0,2,3,4,5,6,7] [⟨8,9,35,pnt 0 0 false,fun _=>pnQ P⟩] ⟨.g 27 0 (Z.gr h) rfl,.z (one_any _ hn),.k _ fun i vv f A=>RtW.of_n (fm_any hM),.g 27 0 (Z.gr h) rfl,.k _ fun i vv f A=>RtW.of_pt (rg_any I _ (fun j=>(HQ j).gr (h.trans f))),.k (fun i =>#[.agg (crA (k:Int) (nN k) I),.slice (i 3 0).1 (dl (n)) (i 3 0).2,.agg (ptA (i 5 0).1 (xN k) (i 5 0).2 (i 5 1).1 (yN k) (i 5 1).2 false)]) fun i vv f A=>RtW.of_pt (hP▸rtimesQ k D H I (gQ_on D H) hd (fun j=>(HQ j).gr (h.trans f)) (A 3 rfl) (A 5 rfl).1 (A 5 rfl).2),.k (fun i =>#[.agg (ptA (i 6 0).1 (P.1) (i 6 0).2 (i 6 1).1 (P.2.1) (i 6 1).2 P.2.2)]) fun i vv f A=>RtW.of_c (Rt.c (rout_any _ _ _ _ _ _ _ _ (A 6 rfl).1 (A 6 rfl).2)),⟨⟩⟩ ⟨.k zPnt ⟨fkc,fkc,fkc,fkn bPnt,fkc,fkp bPnt,fkp bPnt,fkc,fka,fku,trivial⟩,⟨⟩⟩ fun aq v2 f h6 aJ=>?_;simp only[fzw,Kw.a];obtain⟨⟨aV,B⟩,-⟩:(v1.heap.size≤(aq 8 0).2∧Vr v2 (aq 8 0).2 (pnQ P))∧True:=aJ;clear h6;replace h:=h.trans f;clear f
 go_upto_region 7 with fail
 refine wp_v true [.c (.agg (crA (k:Int) (nN k) I)),.N a,.N x,.c (.agg (crA (k:Int) (nN k) I)),.N b,.N y,.a,.a,.u,.u] [0,1,2,3,4,5] [⟨6,8,33,nw 9 0,fun _=>nw 9 x⟩,⟨7,9,33,nw 9 0,fun _=>nw 9 y⟩] ⟨.g 27 0 (Z.gr h) rfl,.g 33 0 (c0.gr h) rfl,.k _ fun i vv f A=>RtW.of_c (Rt.c (of_any la dx D H I _ (fun j=>(HQ j).gr (h.trans f)))),.g 27 0 (Z.gr h) rfl,.g 33 0 (c1.gr h) rfl,.k _ fun i vv f A=>RtW.of_c (Rt.c (of_any lb dy D H I _ (fun j=>(HQ j).gr (h.trans f)))),⟨⟩⟩ ⟨.k zNat (.t rfl),.k zNat (.t rfl),⟨⟩⟩ fun ae v3 f h7 aK=>?_;simp only[fzw,Kw.a];obtain⟨⟨aW,X⟩,⟨a0,Y⟩,-⟩:(v2.heap.size≤(ae 6 0).2∧Vr v3 (ae 6 0).2 (nw 9 x))∧(v2.heap.size≤(ae 7 0).2∧Vr v3 (ae 7 0).2 (nw 9 y))∧True:=aK;clear h7;replace h:=h.trans f;have C:=f;clear f
 go_upto_region 8 with fail
 refine wp_v true [.N x,.n (x),.N y,.n (y),.c (pv e9 4),.c (.slice (I 3).1 (dl (oN k)) (I 3).2),.n (m),.N m,.a,.u] [0,1,2,3,5,6,7] [⟨8,9,33,nw 9 0,fun _=>nw 9 m⟩] ⟨.g 33 0 X rfl,.k _ fun i vv f A=>RtW.of_n (fm_any lx),.g 33 0 Y rfl,.k _ fun i vv f A=>RtW.of_n (fm_any ly),.o 25 4 (Z.gr h) rfl rfl,.k (fun i =>#[.slice (i 1 0).1 (dl (x)) (i 1 0).2,.slice (i 3 0).1 (dl (y)) (i 3 0).2,.slice (I 3).1 (dl (oN k)) (I 3).2]) fun i vv f A=>RtW.of_n (am_any (A 1 rfl) (A 3 rfl) ((HQ 3).gr (h.trans f)) qx qy aH hm),.k (fun i =>#[.slice (i 6 0).1 (dl (m)) (i 6 0).2]) fun i vv f A=>RtW.of_c (nt_any (A 6 rfl)),⟨⟩⟩ ⟨.k zNat ⟨fkc,fkn bNat,fkc,fkn bNat,fkc,fkc,fkn bNat,fkc,fka,fku,trivial⟩,⟨⟩⟩ fun ar v4 f h8 aL=>?_;simp only[fzw,Kw.a];obtain⟨⟨a1,aa⟩,-⟩:(v3.heap.size≤(ar 8 0).2∧Vr v4 (ar 8 0).2 (nw 9 m))∧True:=aL;clear h8;replace h:=h.trans f;replace C:=C.trans f;have J:=f;clear f
 go_upto_region 9 with fail
 refine wp_v false [.c (pv e9 0),.c (.int .i64 k),.N x,.c (.agg (pnQ P)),.E (.agg (pnQ U)),.E (.agg (pnQ U)),.c (.agg (pnQ U)),.O,.a,.u,.O] [1,2,3,4] [⟨8,9,35,pnt 0 0 false,fun _=>pnQ U⟩] ⟨.o 3 0 (Z.gr h) rfl rfl,.g 33 0 (X.gr J) rfl,.g 35 0 (B.gr C) rfl,.z (mulM D H (P:=P) oP (d:=x) qx (Q:=U) hU),⟨⟩⟩ ⟨.k zPnt (.t rfl),⟨⟩⟩ fun au v5 f h9 aM=>?_;simp only[fzw,Kw.a];obtain⟨⟨a2,ab⟩,-⟩:(v4.heap.size≤(au 8 0).2∧Vr v5 (au 8 0).2 (pnQ U))∧True:=aM;clear h9;replace h:=h.trans f;replace C:=C.trans f;replace J:=J.trans f;have g9:=f;clear f
 go_upto_region 10 with fail
 refine wp_v false [.c (pv e9 0),.c (.int .i64 k),.N y,.c (.agg (pnQ P)),.E (.agg (pnQ V)),.E (.agg (pnQ V)),.c (.agg (pnQ V)),.O,.a,.u,.O] [1,2,3,4] [⟨8,9,35,pnt 0 0 false,fun _=>pnQ V⟩] ⟨.o 3 0 (Z.gr h) rfl rfl,.g 33 0 (Y.gr J) rfl,.g 35 0 (B.gr C) rfl,.z (mulM D H (P:=P) oP (d:=y) qy (Q:=V) hV),⟨⟩⟩ ⟨.k zPnt (.t rfl),⟨⟩⟩ fun af v6 f aO av=>?_;simp only[fzw,Kw.a];obtain⟨⟨aP,K⟩,-⟩:(v5.heap.size≤(af 8 0).2∧Vr v6 (af 8 0).2 (pnQ V))∧True:=av;clear aO;replace h:=h.trans f;replace C:=C.trans f;replace J:=J.trans f;replace g9:=g9.trans f;have q:=f;clear f
 go_upto_region 11 with fail
 refine wp_v false [.c (pv e9 0),.c (.int .i64 k),.N m,.c (.agg (pnQ P)),.E (.agg (pnQ T)),.E (.agg (pnQ T)),.c (.agg (pnQ T)),.O,.a,.u,.O] [1,2,3,4] [⟨8,9,35,pnt 0 0 false,fun _=>pnQ T⟩] ⟨.o 3 0 (Z.gr h) rfl rfl,.g 33 0 (aa.gr g9) rfl,.g 35 0 (B.gr C) rfl,.z (mulM D H (P:=P) oP (d:=m) mN (Q:=T) hT),⟨⟩⟩ ⟨.k zPnt (.t rfl),⟨⟩⟩ fun ag v7 f aQ aw=>?_;simp only[fzw,Kw.a];obtain⟨⟨aR,L⟩,-⟩:(v6.heap.size≤(ag 8 0).2∧Vr v7 (ag 8 0).2 (pnQ T))∧True:=aw;clear aQ;replace q:=q.trans f;replace h:=h.trans f;replace C:=C.trans f;replace J:=J.trans f;replace g9:=g9.trans f;have S:=f;clear f
 go_upto_region 12 with fail
 refine wp_v false [.c (pv e9 0),.c (.int .i64 k),.c (.agg (pnQ U)),.c (.agg (pnQ V)),.E (.agg (pnQ T)),.E (.agg (pnQ T)),.c (.agg (pnQ T)),.O,.a,.u,.O] [1,2,3,4] [⟨8,9,35,pnt 0 0 false,fun _=>pnQ T⟩] ⟨.o 3 0 (Z.gr h) rfl rfl,.g 35 0 (ab.gr q) rfl,.g 35 0 (K.gr S) rfl,.z (addQ D H oU oV aI),⟨⟩⟩ ⟨.k zPnt (.t rfl),⟨⟩⟩ fun ah v8 f aS ax=>?_;simp only[fzw,Kw.a];obtain⟨⟨aT,W⟩,-⟩:(v7.heap.size≤(ah 8 0).2∧Vr v8 (ah 8 0).2 (pnQ T))∧True:=ax;clear aS;replace q:=q.trans f;replace S:=S.trans f;replace h:=h.trans f;replace C:=C.trans f;replace J:=J.trans f;replace g9:=g9.trans f;have ac:=f;clear f
 go_upto_region 13 with fail
 refine wp_wS [.O,.O,.T,.T,.O,.O,.T,.T,.T,.O,.O,.T,.T,.T,.O,.O,.T,.T,.T,.c (.agg (pnQ T)),.c (.agg (pnQ T)),.T,.T,.T] [1,5,10,15,19,20,21] ⟨.y (num_any _),.y (num_any _),.y (num_any _),.y (num_any _),.g 35 0 W rfl,.g 35 0 (L.gr ac) rfl,.s (.binOp .eql 35 (.const (.agg (pnQ T))) (.const (.agg (pnQ T))) 35) rfl fun vv f=>by simp[go_sem,exI,eqPn,eqN_self],⟨⟩⟩ fun a3 v9 f aU=>?_;simp only[fzw];clear aU;replace q:=q.trans f;replace S:=S.trans f;replace ac:=ac.trans f;replace h:=h.trans f;replace C:=C.trans f;replace J:=J.trans f;replace g9:=g9.trans f;have ay:=f;clear f;replace G:=G.trans h;replace Z:=Z.gr h;replace c0:=c0.gr h;replace c1:=c1.gr h;replace HQ:=fun k=>(HQ k).gr h;replace B:=B.gr C;replace X:=X.gr J;replace Y:=Y.gr J;replace aa:=aa.gr g9;replace ab:=ab.gr q;replace K:=K.gr S;replace L:=L.gr ac;replace W:=W.gr ay;clear q S ac ay h C J g9
 go_wp2_with fail
 go_ret
 exact⟨rfl,G⟩
end
end
end Go.Proofs.YtffhepbppiocbacGreat