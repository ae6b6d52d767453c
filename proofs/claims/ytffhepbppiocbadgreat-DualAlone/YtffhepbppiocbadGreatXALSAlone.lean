import Derived.Test.YtffhepbppiocbadGreatXAQQ
import Derived.Test.YtffhepbppiocbadGreatXAQI
import Derived.Test.YtffhepbppiocbadGreatXAQG
namespace Go.Proofs.YtffhepbppiocbadGreat
open Go.RowKit Go.Proofs.Tryz
set_option maxRecDepth 100000
set_option maxHeartbeats 8000000
section
attribute [local go_sem ↓] uz1
attribute [local go_sem] uz2
section
attribute [local go_sem] uz8
attribute [local go_sem ↓] uz17 Go.wp_at_zero Go.wp_at_succ
attribute [local go_sem] uz18
theorem lsalone_any(id:Int)(a b n:Nat)(la:a<M)(lb:b<M)(wn:n<18446744073709551616)(w:World):Cg 7 #[.int .i64 id,.agg (nw 9 a),.agg (nw 9 b),.int .u64 n] w (.bool true):=by
 obtain⟨u,hu,aP,hk⟩:=idx_conv id;have av:=idx_bd id;obtain⟨k,aw⟩:=exl (idx id);rw[aw]at hk av;obtain⟨K,L⟩:=av
 have u0:(0:Int)≤u:=by omega
 have aQ:(1:Int)+u%15=k:=by omega
 have aR:IntKind.i64.wrap ((u:Int)%15)=(u:Int)%15:=by rw[IntKind.wrap_i64];omega
 have aS:IntKind.u64.wrap ((u:Int)%15)=(u:Int)%15:=by rw[IntKind.wrap_u64];omega
 have aT:(u:Int).tmod 15=(u:Int)%15:=by rw[Int.tmod_eq_emod_of_nonneg (by omega)]
 have k0:(1:Int)≤k:=by omega
 have k1:(k:Int)≤15:=by omega
 have aU:id%18446744073709551616=(u:Int):=by rw[←hu,IntKind.wrap_u64]
 clear aw hk;have ax:Hid (∀w,Calls prog 10 #[.int .i64 k] w (GetQ k w)):=fun w=>getq_yes k K L w;have ay:Hid (∀w,Cg 24 #[] w (.bool true)):=fun w=>awake20_any w
 go_enter func7,ntmps7
 go_upto_region 1 with fail
 refine gen_w (fun v=>Hid (Gr w v∧Vr v (w.heap.size) (nw 9 a)∧Vr v (w.heap.size+1) (nw 9 b))) ⟨grA,vrA,vrA⟩ ?_;intro u0 HV
 go_upto_region 6 with (first
  | (go_at_call 24;refine(ay.out _).mono ?_;rintro e WA ⟨rfl,GA⟩)
  | (go_at_call 10;refine(ax.out _).mono ?_;rintro e WB ⟨I,rfl,HQ,GB⟩))
 obtain⟨e9,au⟩:=exl (WB.heap.size);simp only[au]
 refine gen_w (fun v=>Gr w v∧Vr v e9 (crA (k:Int) (nN k) I)∧(∀j,Sl v (I j).1 (nN k j))∧Vr v (w.heap.size) (nw 9 a)∧Vr v (w.heap.size+1) (nw 9 b)) ?_ ?_
 ·subst au;have g1:Gr WB (WB.alloc (.cells (crA (k:Int) (nN k) I) 30)):=(Gr.refl _).alloc _;obtain⟨G,c0,c1⟩:=HV.out;have g2:=(GA.trans GB).trans g1;exact⟨G.trans g2,Vr.new _ _ _,fun j=>(HQ j).gr g1,c0.gr g2,c1.gr g2⟩
 clear au GA GB HQ ay ax hu aP aQ aR aS aT aU u0 k0 k1 HV;rintro v0 ⟨G,c9,HQ,c0,c1⟩;have ln:=lt_M _ wn
 have aV:dl a≤1000:=by have:=dl_M a la;omega
 have aW:dl b≤1000:=by have:=dl_M b lb;omega
 have az:dl (oN k)≤1000:=by have:=oN_dl k;omega
 have ac:0<oN k:=by have:=EC.oN_pos k K L;omega
 obtain⟨x,dx⟩:=exl (a%oN k);have qx:x<oN k:=dx▸Nat.mod_lt _ ac;obtain⟨y,dy⟩:=exl (b%oN k);have qy:y<oN k:=dy▸Nat.mod_lt _ ac
 have aA:dl n≤400:=by have:=dl_M n ln;omega
 have a0:dl (oN k)≤400:=by have:=oN_dl k;omega
 have oG:=gQ_on K L;obtain⟨Q,hQ⟩:=exl (mlQ k n (gQ k));have oQ:OnQ k Q:=hQ▸mlQ_on K L _ oG;obtain⟨P,hP⟩:=exl (mlQ k x (gQ k));have oP:OnQ k P:=hP▸mlQ_on K L _ oG;obtain⟨R,hR⟩:=exl (mlQ k y Q);have oR:OnQ k R:=hR▸mlQ_on K L _ oQ;obtain⟨m,hm⟩:=exl ((x+y)%oN k);have qm:m<oN k:=hm▸Nat.mod_lt _ ac;obtain⟨S,hS⟩:=exl (twQ k (gQ k) x y);have a1:=hS
 have a2:mlQ k m (gQ k)=S:=by rw[←hS,twQ,add_modQ K L oG (mlQ_N K L) hm]
 have a3:twQ k Q x 0=P:=by rw[twQ,hP,mlQ_zero K L,plQ_inf K L oP]
 have a4:twQ k Q 0 y=R:=by rw[twQ,hR,mlQ_zero K L,inf_plQ K L oR]
 refine wp_v false [.c (.agg (crA (k:Int) (nN k) I)),.pt (xN k) (yN k) false,.c (.agg (pnt (xN k) (yN k) false)),.a,.u] [0,1,2] [⟨3,4,38,pnt 0 0 false,fun _=>pnt (xN k) (yN k) false⟩] ⟨.g 30 0 c9 rfl,.k _ fun i U f A=>RtW.of_pt (rg_any I _ (fun j=>(HQ j).gr f)),.k (fun i =>#[.agg (ptA (i 1 0).1 (xN k) (i 1 0).2 (i 1 1).1 (yN k) (i 1 1).2 false)]) fun i U f A=>RtW.of_c (Rt.c (rout_any _ _ _ _ _ _ _ _ (A 1 rfl).1 (A 1 rfl).2)),⟨⟩⟩ ⟨.k zPnt ⟨fkc,fkp bPnt,fkc,fka,fku,trivial⟩,⟨⟩⟩ fun aB v1 f h6 a5=>?_;simp only[fzw,Kw.a];obtain⟨⟨bh,ai⟩,-⟩:(v0.heap.size≤(aB 3 0).2∧Vr v1 (aB 3 0).2 (pnt (xN k) (yN k) false))∧True:=a5;clear h6;have q:=f;clear f
 go_upto_region 7 with fail
 refine wp_v true [.c (.agg (crA (k:Int) (nN k) I)),.c (.int .u64 n),.N n,.n (n),.c (.agg (crA (k:Int) (nN k) I)),.pt (xN k) (yN k) false,.pt (Q.1) (Q.2.1) Q.2.2,.c (.agg (pnQ Q)),.a,.u] [0,2,3,4,5,6,7] [⟨8,9,38,pnt 0 0 false,fun _=>pnQ Q⟩] ⟨.g 30 0 (c9.gr q) rfl,.z (one_any _ wn),.k _ fun i U f A=>RtW.of_n (fm_any ln),.g 30 0 (c9.gr q) rfl,.k _ fun i U f A=>RtW.of_pt (rg_any I _ (fun j=>(HQ j).gr (q.trans f))),.k (fun i =>#[.agg (crA (k:Int) (nN k) I),.slice (i 3 0).1 (dl (n)) (i 3 0).2,.agg (ptA (i 5 0).1 (xN k) (i 5 0).2 (i 5 1).1 (yN k) (i 5 1).2 false)]) fun i U f A=>RtW.of_pt (hQ▸rtimesQ k K L I (gQ_on K L) aA (fun j=>(HQ j).gr (q.trans f)) (A 3 rfl) (A 5 rfl).1 (A 5 rfl).2),.k (fun i =>#[.agg (ptA (i 6 0).1 (Q.1) (i 6 0).2 (i 6 1).1 (Q.2.1) (i 6 1).2 Q.2.2)]) fun i U f A=>RtW.of_c (Rt.c (rout_any _ _ _ _ _ _ _ _ (A 6 rfl).1 (A 6 rfl).2)),⟨⟩⟩ ⟨.k zPnt ⟨fkc,fkc,fkc,fkn bPnt,fkc,fkp bPnt,fkp bPnt,fkc,fka,fku,trivial⟩,⟨⟩⟩ fun aC v2 f h7 a6=>?_;simp only[fzw,Kw.a];obtain⟨⟨bi,ab⟩,-⟩:(v1.heap.size≤(aC 8 0).2∧Vr v2 (aC 8 0).2 (pnQ Q))∧True:=a6;clear h7;replace q:=q.trans f;have V:=f;clear f
 go_upto_region 8 with fail
 refine wp_w [.N a,.n (a),.c (pv e9 4),.c (.slice (I 3).1 (dl (oN k)) (I 3).2),.n (x),.N b,.n (b),.c (pv e9 4),.c (.slice (I 3).1 (dl (oN k)) (I 3).2),.n (y),.n (x),.n (y)] [0,1,3,4,5,6,8,9,10,11] ⟨.g 25 0 (c0.gr q) rfl,.k _ fun i U f A=>RtW.of_n (fm_any la),.o 28 4 (c9.gr q) rfl rfl,.k (fun i =>#[.slice (i 1 0).1 (dl (a)) (i 1 0).2,.slice (I 3).1 (dl (oN k)) (I 3).2]) fun i U f A=>RtW.of_n (Rt.n (dx▸rmod_any a (oN k) _ _ _ _ _ (A 1 rfl) ((HQ 3).gr (q.trans f)) aV az ac)),.g 25 0 (c1.gr q) rfl,.k _ fun i U f A=>RtW.of_n (fm_any lb),.o 28 4 (c9.gr q) rfl rfl,.k (fun i =>#[.slice (i 6 0).1 (dl (b)) (i 6 0).2,.slice (I 3).1 (dl (oN k)) (I 3).2]) fun i U f A=>RtW.of_n (Rt.n (dy▸rmod_any b (oN k) _ _ _ _ _ (A 6 rfl) ((HQ 3).gr (q.trans f)) aW az ac)),.m 4,.m 9,⟨⟩⟩ fun h v3 f h8=>?_;simp only[fzw];have B:Sl v3 (h 10 0).1 (x):=h8 10;have C:Sl v3 (h 11 0).1 (y):=h8 11;clear h8;replace q:=q.trans f;replace V:=V.trans f;have W:=f;clear f
 go_upto_region 9 with fail
 refine wp_v true [.c (pv e9 0),.c (.int .i64 k),.c (.slice (h 10 0).1 (dl (x)) (h 10 0).2),.N x,.N 0,.c (.agg (pnQ Q)),.E (.agg (pnQ P)),.E (.agg (pnQ P)),.c (.agg (pnQ P)),.O,.a,.u,.O] [1,3,5,6] [⟨10,11,38,pnt 0 0 false,fun _=>pnQ P⟩] ⟨.o 3 0 (c9.gr q) rfl rfl,.k (fun i =>#[.slice (h 10 0).1 (dl (x)) (h 10 0).2]) fun i U f A=>RtW.of_c (nt_any (B.gr f)),.g 38 0 (ab.gr W) rfl,.z (dmul_yes K L (Q:=Q) oQ (x:=x) (y:=0) qx ac (R:=P) a3),⟨⟩⟩ ⟨.k zPnt (.t rfl),⟨⟩⟩ fun aD v4 f h9 a7=>?_;simp only[fzw,Kw.a];obtain⟨⟨a8,ae⟩,-⟩:(v3.heap.size≤(aD 10 0).2∧Vr v4 (aD 10 0).2 (pnQ P))∧True:=a7;clear h9;replace q:=q.trans f;replace V:=V.trans f;replace W:=W.trans f;have J:=f;clear f
 go_upto_region 10 with fail
 refine wp_v true [.c (pv e9 0),.c (.int .i64 k),.c (.slice (h 10 0).1 (dl (x)) (h 10 0).2),.N x,.E (.agg (pnQ P)),.E (.agg (pnQ P)),.c (.agg (pnQ P)),.O,.a,.u,.O] [1,3,4] [⟨8,9,38,pnt 0 0 false,fun _=>pnQ P⟩] ⟨.o 3 0 (c9.gr q) rfl rfl,.k (fun i =>#[.slice (h 10 0).1 (dl (x)) (h 10 0).2]) fun i U f A=>RtW.of_c (nt_any (B.gr (J.trans f))),.z (bulM K L (d:=x) qx (Q:=P) hP),⟨⟩⟩ ⟨.k zPnt (.t rfl),⟨⟩⟩ fun ak v5 f a9 aE=>?_;simp only[fzw,Kw.a];obtain⟨⟨ba,af⟩,-⟩:(v4.heap.size≤(ak 8 0).2∧Vr v5 (ak 8 0).2 (pnQ P))∧True:=aE;clear a9;replace q:=q.trans f;replace V:=V.trans f;replace W:=W.trans f;replace J:=J.trans f;have D:=f;clear f
 go_upto_region 11 with fail
 refine wp_v true [.c (pv e9 0),.c (.int .i64 k),.N 0,.c (.slice (h 11 0).1 (dl (y)) (h 11 0).2),.N y,.c (.agg (pnQ Q)),.E (.agg (pnQ R)),.E (.agg (pnQ R)),.c (.agg (pnQ R)),.O,.a,.u,.O] [1,4,5,6] [⟨10,11,38,pnt 0 0 false,fun _=>pnQ R⟩] ⟨.o 3 0 (c9.gr q) rfl rfl,.k (fun i =>#[.slice (h 11 0).1 (dl (y)) (h 11 0).2]) fun i U f A=>RtW.of_c (nt_any (C.gr (J.trans f))),.g 38 0 (ab.gr W) rfl,.z (dmul_yes K L (Q:=Q) oQ (x:=0) (y:=y) ac qy (R:=R) a4),⟨⟩⟩ ⟨.k zPnt (.t rfl),⟨⟩⟩ fun ao v6 f bb aG=>?_;simp only[fzw,Kw.a];obtain⟨⟨aL,X⟩,-⟩:(v5.heap.size≤(ao 10 0).2∧Vr v6 (ao 10 0).2 (pnQ R))∧True:=aG;clear bb;replace D:=D.trans f;replace q:=q.trans f;replace V:=V.trans f;replace W:=W.trans f;replace J:=J.trans f;have H:=f;clear f
 go_upto_region 12 with fail
 refine wp_v true [.c (pv e9 0),.c (.int .i64 k),.c (.slice (h 11 0).1 (dl (y)) (h 11 0).2),.N y,.c (.agg (pnQ Q)),.E (.agg (pnQ R)),.E (.agg (pnQ R)),.c (.agg (pnQ R)),.O,.a,.u,.O] [1,3,4,5] [⟨9,10,38,pnt 0 0 false,fun _=>pnQ R⟩] ⟨.o 3 0 (c9.gr q) rfl rfl,.k (fun i =>#[.slice (h 11 0).1 (dl (y)) (h 11 0).2]) fun i U f A=>RtW.of_c (nt_any (C.gr (J.trans f))),.g 38 0 (ab.gr W) rfl,.z (mulM K L (P:=Q) oQ (d:=y) qy (Q:=R) hR),⟨⟩⟩ ⟨.k zPnt (.t rfl),⟨⟩⟩ fun ap v7 f bc aH=>?_;simp only[fzw,Kw.a];obtain⟨⟨bd,ag⟩,-⟩:(v6.heap.size≤(ap 9 0).2∧Vr v7 (ap 9 0).2 (pnQ R))∧True:=aH;clear bc;replace D:=D.trans f;replace H:=H.trans f;replace q:=q.trans f;replace V:=V.trans f;replace W:=W.trans f;replace J:=J.trans f;have Y:=f;clear f
 go_upto_region 13 with fail
 refine wp_v true [.c (pv e9 0),.c (.int .i64 k),.c (.slice (h 10 0).1 (dl (x)) (h 10 0).2),.N x,.c (.slice (h 11 0).1 (dl (y)) (h 11 0).2),.N y,.c (.agg (pnt (xN k) (yN k) false)),.E (.agg (pnQ S)),.E (.agg (pnQ S)),.c (.agg (pnQ S)),.O,.a,.u,.O] [1,3,5,6,7] [⟨11,12,38,pnt 0 0 false,fun _=>pnQ S⟩] ⟨.o 3 0 (c9.gr q) rfl rfl,.k (fun i =>#[.slice (h 10 0).1 (dl (x)) (h 10 0).2]) fun i U f A=>RtW.of_c (nt_any (B.gr (J.trans f))),.k (fun i =>#[.slice (h 11 0).1 (dl (y)) (h 11 0).2]) fun i U f A=>RtW.of_c (nt_any (C.gr (J.trans f))),.g 38 0 (ai.gr V) rfl,.z (dmul_yes K L (Q:=(gQ k)) (gQ_on K L) (x:=x) (y:=y) qx qy (R:=S) a1),⟨⟩⟩ ⟨.k zPnt (.t rfl),⟨⟩⟩ fun aq v8 f be aI=>?_;simp only[fzw,Kw.a];obtain⟨⟨aM,Z⟩,-⟩:(v7.heap.size≤(aq 11 0).2∧Vr v8 (aq 11 0).2 (pnQ S))∧True:=aI;clear be;replace D:=D.trans f;replace H:=H.trans f;replace Y:=Y.trans f;replace q:=q.trans f;replace V:=V.trans f;replace W:=W.trans f;replace J:=J.trans f;have ah:=f;clear f
 go_upto_region 14 with fail
 refine wp_v true [.c (pv e9 0),.c (.int .i64 k),.c (.slice (h 10 0).1 (dl (x)) (h 10 0).2),.c (.slice (h 11 0).1 (dl (y)) (h 11 0).2),.c (pv e9 4),.c (.slice (I 3).1 (dl (oN k)) (I 3).2),.n (m),.N m,.E (.agg (pnQ S)),.E (.agg (pnQ S)),.c (.agg (pnQ S)),.O,.a,.u,.O] [1,5,6,7,8] [⟨12,13,38,pnt 0 0 false,fun _=>pnQ S⟩] ⟨.o 3 0 (c9.gr q) rfl rfl,.o 28 4 (c9.gr q) rfl rfl,.k (fun i =>#[.slice (h 10 0).1 (dl (x)) (h 10 0).2,.slice (h 11 0).1 (dl (y)) (h 11 0).2,.slice (I 3).1 (dl (oN k)) (I 3).2]) fun i U f A=>RtW.of_n (am_any (B.gr (J.trans f)) (C.gr (J.trans f)) ((HQ 3).gr (q.trans f)) qx qy a0 hm),.k (fun i =>#[.slice (i 6 0).1 (dl (m)) (i 6 0).2]) fun i U f A=>RtW.of_c (nt_any (A 6 rfl)),.z (bulM K L (d:=m) qm (Q:=S) a2),⟨⟩⟩ ⟨.k zPnt ⟨fkc,fkc,fkc,fkc,fkc,fkc,fkn bPnt,fkc,fkc,fkc,fkc,fkc,fka,fku,fkc,trivial⟩,⟨⟩⟩ fun ar v9 f bf aJ=>?_;simp only[fzw,Kw.a];obtain⟨⟨aO,aa⟩,-⟩:(v8.heap.size≤(ar 12 0).2∧Vr v9 (ar 12 0).2 (pnQ S))∧True:=aJ;clear bf;replace D:=D.trans f;replace H:=H.trans f;replace Y:=Y.trans f;replace ah:=ah.trans f;replace q:=q.trans f;replace V:=V.trans f;replace W:=W.trans f;replace J:=J.trans f;have aj:=f;clear f
 go_upto_region 15 with fail
 refine wp_wS [.O,.O,.T,.T,.O,.O,.T,.T,.T,.O,.O,.T,.T,.T,.O,.O,.T,.T,.T,.O,.O,.T,.T,.T,.O,.O,.T,.T,.T,.c (.agg (pnQ P)),.c (.agg (pnQ P)),.T,.T,.T,.c (.agg (pnQ R)),.c (.agg (pnQ R)),.T,.T,.T,.c (.agg (pnQ S)),.c (.agg (pnQ S)),.T,.T,.T] [1,5,10,15,20,25,29,30,31,34,35,36,39,40,41] ?hs19 ?hf19
 case hs19=>
  exact⟨.y (num_any _),.y (num_any _),.y (num_any _),.y (num_any _),.y (num_any _),.y (num_any _),.g 38 0 (ae.gr D) rfl,.g 38 0 (af.gr H) rfl,.s (.binOp .eql 38 (.const (.agg (pnQ P))) (.const (.agg (pnQ P))) 38) rfl fun U f=>by simp[go_sem,exI,eqPn,eqN_self],.g 38 0 (X.gr Y) rfl,.g 38 0 (ag.gr ah) rfl,.s (.binOp .eql 38 (.const (.agg (pnQ R))) (.const (.agg (pnQ R))) 38) rfl fun U f=>by simp[go_sem,exI,eqPn,eqN_self],.g 38 0 (Z.gr aj) rfl,.g 38 0 aa rfl,.s (.binOp .eql 38 (.const (.agg (pnQ S))) (.const (.agg (pnQ S))) 38) rfl fun U f=>by simp[go_sem,exI,eqPn,eqN_self],⟨⟩⟩
 intro bj bk f bg;simp only[fzw];clear bg;replace D:=D.trans f;replace H:=H.trans f;replace Y:=Y.trans f;replace ah:=ah.trans f;replace aj:=aj.trans f;replace q:=q.trans f;replace V:=V.trans f;replace W:=W.trans f;replace J:=J.trans f;have aK:=f;clear f;replace G:=G.trans q;replace c9:=c9.gr q;replace c0:=c0.gr q;replace c1:=c1.gr q;replace HQ:=fun k=>(HQ k).gr q;replace ai:=ai.gr V;replace ab:=ab.gr W;replace B:=B.gr J;replace C:=C.gr J;replace ae:=ae.gr D;replace af:=af.gr H;replace X:=X.gr Y;replace ag:=ag.gr ah;replace Z:=Z.gr aj;replace aa:=aa.gr aK;clear D H Y ah aj aK q V W J
 go_wp2_with fail
 go_ret
 exact⟨rfl,G⟩
end
end
end Go.Proofs.YtffhepbppiocbadGreat