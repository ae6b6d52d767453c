import Derived.Test.YtffhepbppiocbadGreatXAQQ
namespace Go.Proofs.YtffhepbppiocbadGreat
open Go.RowKit Go.Proofs.Tryz
set_option maxRecDepth 100000
set_option maxHeartbeats 8000000
section
attribute [local go_sem ↓] uz1
attribute [local go_sem] uz2
section
attribute [local go_sem] uz8
attribute [local go_sem ↓] uz17 Go.wp_at_zero Go.wp_at_succ
attribute [local go_sem] uz18
theorem lsparts_any(id:Int)(a b n:Nat)(wa:a<18446744073709551616)(wb:b<18446744073709551616)(wn:n<18446744073709551616)(w:World):Cg 6 #[.int .i64 id,.int .u64 a,.int .u64 b,.int .u64 n] w (.bool true):=by
 obtain⟨u,hu,aC,hk⟩:=idx_conv id;have ak:=idx_bd id;obtain⟨k,ao⟩:=exl (idx id);rw[ao]at hk ak;obtain⟨H,I⟩:=ak
 have u0:(0:Int)≤u:=by omega
 have aD:(1:Int)+u%15=k:=by omega
 have aE:IntKind.i64.wrap ((u:Int)%15)=(u:Int)%15:=by rw[IntKind.wrap_i64];omega
 have aG:IntKind.u64.wrap ((u:Int)%15)=(u:Int)%15:=by rw[IntKind.wrap_u64];omega
 have aH:(u:Int).tmod 15=(u:Int)%15:=by rw[Int.tmod_eq_emod_of_nonneg (by omega)]
 have k0:(1:Int)≤k:=by omega
 have k1:(k:Int)≤15:=by omega
 have aI:id%18446744073709551616=(u:Int):=by rw[←hu,IntKind.wrap_u64]
 clear ao hk;have ap:Hid (∀w,Calls prog 10 #[.int .i64 k] w (GetQ k w)):=fun w=>getq_yes k H I w;have aq:Hid (∀w,Cg 24 #[] w (.bool true)):=fun w=>awake20_any w
 go_enter func6,ntmps6
 go_upto_region 6 with (first
  | (go_at_call 24;refine(aq.out _).mono ?_;rintro e WA ⟨rfl,GA⟩)
  | (go_at_call 10;refine(ap.out _).mono ?_;rintro e WB ⟨Y,rfl,HQ,GB⟩))
 obtain⟨e9,aj⟩:=exl (WB.heap.size);simp only[aj]
 refine gen_w (fun v=>Gr w v∧Vr v e9 (crA (k:Int) (nN k) Y)∧(∀j,Sl v (Y j).1 (nN k j))) ?_ ?_
 ·subst aj;have g1:Gr WB (WB.alloc (.cells (crA (k:Int) (nN k) Y) 30)):=(Gr.refl _).alloc _;exact⟨(GA.trans GB).trans g1,Vr.new _ _ _,fun j=>(HQ j).gr g1⟩
 clear aj GA GB HQ aq ap hu aC aD aE aG aH aI u0 k0 k1;rintro v0 ⟨G,c9,HQ⟩;have la:=lt_M _ wa;have lb:=lt_M _ wb
 have aJ:dl a≤1000:=by have:=dl_M a la;omega
 have aK:dl b≤1000:=by have:=dl_M b lb;omega
 have ar:dl (oN k)≤1000:=by have:=oN_dl k;omega
 have Z:0<oN k:=by have:=EC.oN_pos k H I;omega
 obtain⟨x,dx⟩:=exl (a%oN k);have qx:x<oN k:=dx▸Nat.mod_lt _ Z;obtain⟨y,dy⟩:=exl (b%oN k);have qy:y<oN k:=dy▸Nat.mod_lt _ Z;obtain⟨Q,hQ⟩:=exl (mlQ k n (gQ k));have oQ:OnQ k Q:=hQ▸mlQ_on H I _ (gQ_on H I);obtain⟨P,hP⟩:=exl (mlQ k x (gQ k));have oP:OnQ k P:=hP▸mlQ_on H I _ (gQ_on H I);obtain⟨R,hR⟩:=exl (mlQ k y Q);have oR:OnQ k R:=hR▸mlQ_on H I _ oQ;obtain⟨S,hS⟩:=exl (plQ k P R)
 have hT:twQ k Q x y=S:=by rw[twQ,hP,hR,hS]
 refine wp_v true [.c (.int .u64 a),.N a,.n (a),.c (pv e9 4),.c (.slice (Y 3).1 (dl (oN k)) (Y 3).2),.n (x),.N x,.c (.int .u64 b),.N b,.n (b),.c (pv e9 4),.c (.slice (Y 3).1 (dl (oN k)) (Y 3).2),.n (y),.N y,.a,.a,.u,.u] [1,2,4,5,6,8,9,11,12,13] [⟨14,16,25,nw 9 0,fun _=>nw 9 x⟩,⟨15,17,25,nw 9 0,fun _=>nw 9 y⟩] ⟨.z (one_any _ wa),.k _ fun h vv d hh=>RtW.of_n (fm_any la),.o 28 4 c9 rfl rfl,.k (fun h =>#[.slice (h 2 0).1 (dl (a)) (h 2 0).2,.slice (Y 3).1 (dl (oN k)) (Y 3).2]) fun h vv d hh=>RtW.of_n (Rt.n (dx▸rmod_any a (oN k) _ _ _ _ _ (hh 2 rfl) ((HQ 3).gr d) aJ ar Z)),.k (fun h =>#[.slice (h 5 0).1 (dl (x)) (h 5 0).2]) fun h vv d hh=>RtW.of_c (nt_any (hh 5 rfl)),.z (one_any _ wb),.k _ fun h vv d hh=>RtW.of_n (fm_any lb),.o 28 4 c9 rfl rfl,.k (fun h =>#[.slice (h 9 0).1 (dl (b)) (h 9 0).2,.slice (Y 3).1 (dl (oN k)) (Y 3).2]) fun h vv d hh=>RtW.of_n (Rt.n (dy▸rmod_any b (oN k) _ _ _ _ _ (hh 9 rfl) ((HQ 3).gr d) aK ar Z)),.k (fun h =>#[.slice (h 12 0).1 (dl (y)) (h 12 0).2]) fun h vv d hh=>RtW.of_c (nt_any (hh 12 rfl)),⟨⟩⟩ ⟨.k zNat ⟨fkc,fkc,fkn bNat,fkc,fkc,fkn bNat,fkc,fkc,fkc,fkn bNat,fkc,fkc,fkn bNat,fkc,fka,fka,fku,fku,trivial⟩,.k zNat ⟨fkc,fkc,fkn bNat,fkc,fkc,fkn bNat,fkc,fkc,fkc,fkn bNat,fkc,fkc,fkn bNat,fkc,fka,fka,fku,fku,trivial⟩,⟨⟩⟩ fun ae v1 d h6 aL=>?_;simp only[fzw,Kw.a];obtain⟨⟨aM,A⟩,⟨aO,B⟩,-⟩:(v0.heap.size≤(ae 14 0).2∧Vr v1 (ae 14 0).2 (nw 9 x))∧(v0.heap.size≤(ae 15 0).2∧Vr v1 (ae 15 0).2 (nw 9 y))∧True:=aL;clear h6;have f:=d;clear d
 go_upto_region 7 with fail
 refine wp_v false [.c (.agg (crA (k:Int) (nN k) Y)),.pt (xN k) (yN k) false,.c (.agg (pnt (xN k) (yN k) false)),.a,.u] [0,1,2] [⟨3,4,38,pnt 0 0 false,fun _=>pnt (xN k) (yN k) false⟩] ⟨.g 30 0 (c9.gr f) rfl,.k _ fun h vv d hh=>RtW.of_pt (rg_any Y _ (fun j=>(HQ j).gr (f.trans d))),.k (fun h =>#[.agg (ptA (h 1 0).1 (xN k) (h 1 0).2 (h 1 1).1 (yN k) (h 1 1).2 false)]) fun h vv d hh=>RtW.of_c (Rt.c (rout_any _ _ _ _ _ _ _ _ (hh 1 rfl).1 (hh 1 rfl).2)),⟨⟩⟩ ⟨.k zPnt ⟨fkc,fkp bPnt,fkc,fka,fku,trivial⟩,⟨⟩⟩ fun au v2 d h7 aP=>?_;simp only[fzw,Kw.a];obtain⟨⟨a4,W⟩,-⟩:(v1.heap.size≤(au 3 0).2∧Vr v2 (au 3 0).2 (pnt (xN k) (yN k) false))∧True:=aP;clear h7;replace f:=f.trans d;have q:=d;clear d
 go_upto_region 8 with fail
 refine wp_v true [.c (pv e9 0),.c (.int .i64 k),.c (.int .u64 n),.N n,.c (.agg (pnt (xN k) (yN k) false)),.E (.agg (pnQ Q)),.E (.agg (pnQ Q)),.c (.agg (pnQ Q)),.O,.a,.u,.O] [1,3,4,5] [⟨9,10,38,pnt 0 0 false,fun _=>pnQ Q⟩] ⟨.o 3 0 (c9.gr f) rfl rfl,.z (one_any _ wn),.g 38 0 W rfl,.z (mulQ H I (P:=gQ k) (R:=Q) (gQ_on H I) (lt_M _ wn) hQ),⟨⟩⟩ ⟨.k zPnt (.t rfl),⟨⟩⟩ fun av v3 d h8 aQ=>?_;simp only[fzw,Kw.a];obtain⟨⟨a5,D⟩,-⟩:(v2.heap.size≤(av 9 0).2∧Vr v3 (av 9 0).2 (pnQ Q))∧True:=aQ;clear h8;replace f:=f.trans d;replace q:=q.trans d;have J:=d;clear d
 go_upto_region 9 with fail
 refine wp_v false [.c (pv e9 0),.c (.int .i64 k),.N x,.N y,.c (.agg (pnQ Q)),.E (.agg (pnQ S)),.E (.agg (pnQ S)),.c (.agg (pnQ S)),.O,.a,.u,.O] [1,2,3,4,5] [⟨9,10,38,pnt 0 0 false,fun _=>pnQ S⟩] ⟨.o 3 0 (c9.gr f) rfl rfl,.g 25 0 (A.gr q) rfl,.g 25 0 (B.gr q) rfl,.g 38 0 D rfl,.z (dmul_yes H I (Q:=Q) oQ (x:=x) (y:=y) qx qy (R:=S) hT),⟨⟩⟩ ⟨.k zPnt (.t rfl),⟨⟩⟩ fun aw v4 d h9 aR=>?_;simp only[fzw,Kw.a];obtain⟨⟨a6,ab⟩,-⟩:(v3.heap.size≤(aw 9 0).2∧Vr v4 (aw 9 0).2 (pnQ S))∧True:=aR;clear h9;replace f:=f.trans d;replace q:=q.trans d;replace J:=J.trans d;have X:=d;clear d
 go_upto_region 10 with fail
 refine wp_v false [.c (pv e9 0),.c (.int .i64 k),.N x,.c (.agg (pnt (xN k) (yN k) false)),.E (.agg (pnQ P)),.E (.agg (pnQ P)),.c (.agg (pnQ P)),.O,.a,.u,.O] [1,2,3,4] [⟨8,9,38,pnt 0 0 false,fun _=>pnQ P⟩] ⟨.o 3 0 (c9.gr f) rfl rfl,.g 25 0 (A.gr q) rfl,.g 38 0 (W.gr J) rfl,.z (mulQ H I (P:=gQ k) (R:=P) (gQ_on H I) (Nat.lt_trans qx (oN_bd k)) hP),⟨⟩⟩ ⟨.k zPnt (.t rfl),⟨⟩⟩ fun af v5 d aS ax=>?_;simp only[fzw,Kw.a];obtain⟨⟨aT,K⟩,-⟩:(v4.heap.size≤(af 8 0).2∧Vr v5 (af 8 0).2 (pnQ P))∧True:=ax;clear aS;replace f:=f.trans d;replace q:=q.trans d;replace J:=J.trans d;replace X:=X.trans d;have i:=d;clear d
 go_upto_region 11 with fail
 refine wp_v false [.c (pv e9 0),.c (.int .i64 k),.N y,.c (.agg (pnQ Q)),.E (.agg (pnQ R)),.E (.agg (pnQ R)),.c (.agg (pnQ R)),.O,.a,.u,.O] [1,2,3,4] [⟨8,9,38,pnt 0 0 false,fun _=>pnQ R⟩] ⟨.o 3 0 (c9.gr f) rfl rfl,.g 25 0 (B.gr q) rfl,.g 38 0 (D.gr X) rfl,.z (mulQ H I (P:=Q) (R:=R) oQ (Nat.lt_trans qy (oN_bd k)) hR),⟨⟩⟩ ⟨.k zPnt (.t rfl),⟨⟩⟩ fun ag v6 d aU ay=>?_;simp only[fzw,Kw.a];obtain⟨⟨aV,L⟩,-⟩:(v5.heap.size≤(ag 8 0).2∧Vr v6 (ag 8 0).2 (pnQ R))∧True:=ay;clear aU;replace i:=i.trans d;replace f:=f.trans d;replace q:=q.trans d;replace J:=J.trans d;replace X:=X.trans d;have C:=d;clear d
 go_upto_region 12 with fail
 refine wp_v false [.c (pv e9 0),.c (.int .i64 k),.c (.agg (pnQ P)),.c (.agg (pnQ R)),.E (.agg (pnQ S)),.E (.agg (pnQ S)),.c (.agg (pnQ S)),.O,.a,.u,.O] [1,2,3,4] [⟨8,9,38,pnt 0 0 false,fun _=>pnQ S⟩] ⟨.o 3 0 (c9.gr f) rfl rfl,.g 38 0 (K.gr C) rfl,.g 38 0 L rfl,.z (addQ H I (P:=P) (Q:=R) (R:=S) oP oR hS),⟨⟩⟩ ⟨.k zPnt (.t rfl),⟨⟩⟩ fun ah v7 d aW az=>?_;simp only[fzw,Kw.a];obtain⟨⟨a0,U⟩,-⟩:(v6.heap.size≤(ah 8 0).2∧Vr v7 (ah 8 0).2 (pnQ S))∧True:=az;clear aW;replace i:=i.trans d;replace C:=C.trans d;replace f:=f.trans d;replace q:=q.trans d;replace J:=J.trans d;replace X:=X.trans d;have aa:=d;clear d
 go_upto_region 13 with fail
 refine wp_v false [.c (pv e9 0),.c (.int .i64 k),.N 0,.N 0,.c (.agg (pnQ Q)),.E (.agg (pnt 0 0 true)),.E (.agg (pnt 0 0 true)),.c (.agg (pnt 0 0 true)),.O,.a,.u,.O] [1,4,5] [⟨9,10,38,pnt 0 0 false,fun _=>pnt 0 0 true⟩] ⟨.o 3 0 (c9.gr f) rfl rfl,.g 38 0 (D.gr X) rfl,.z (dmul_yes H I (Q:=Q) oQ (x:=0) (y:=0) Z Z (R:=inf) (twQ_0 H I Q)),⟨⟩⟩ ⟨.k zPnt (.t rfl),⟨⟩⟩ fun ai v8 d a1 aA=>?_;simp only[fzw,Kw.a];obtain⟨⟨a2,V⟩,-⟩:(v7.heap.size≤(ai 9 0).2∧Vr v8 (ai 9 0).2 (pnt 0 0 true))∧True:=aA;clear a1;replace i:=i.trans d;replace C:=C.trans d;replace aa:=aa.trans d;replace f:=f.trans d;replace q:=q.trans d;replace J:=J.trans d;replace X:=X.trans d;have ac:=d;clear d
 go_upto_region 14 with fail
 refine wp_wS [.O,.O,.T,.T,.O,.O,.T,.T,.T,.O,.O,.T,.T,.T,.O,.O,.T,.T,.T,.c (.agg (pnQ S)),.c (.agg (pnQ S)),.T,.T,.T,.c (.agg (pnt 0 0 true)),.c (.agg (pnt 0 0 true)),.T,.T,.T] [1,5,10,15,19,20,21,24,26] ⟨.y (num_any _),.y (num_any _),.y (num_any _),.y (num_any _),.g 38 0 (ab.gr i) rfl,.g 38 0 (U.gr ac) rfl,.s (.binOp .eql 38 (.const (.agg (pnQ S))) (.const (.agg (pnQ S))) 38) rfl fun vv d=>by simp[go_sem,exI,eqPn,eqN_self],.g 38 0 V rfl,.s (.binOp .eql 38 (.const (.agg (pnt 0 0 true))) (.const (.agg (pnt 0 0 true))) 38) rfl fun vv d=>by simp[go_sem,exI,eqPn,eqN_self],⟨⟩⟩ fun a7 v9 d a3=>?_;simp only[fzw];clear a3;replace i:=i.trans d;replace C:=C.trans d;replace aa:=aa.trans d;replace ac:=ac.trans d;replace f:=f.trans d;replace q:=q.trans d;replace J:=J.trans d;replace X:=X.trans d;have aB:=d;clear d;replace G:=G.trans f;replace c9:=c9.gr f;replace HQ:=fun k=>(HQ k).gr f;replace A:=A.gr q;replace B:=B.gr q;replace W:=W.gr J;replace D:=D.gr X;replace ab:=ab.gr i;replace K:=K.gr C;replace L:=L.gr aa;replace U:=U.gr ac;replace V:=V.gr aB;clear i C aa ac aB f q J X
 go_wp2_with fail
 go_ret
 exact⟨rfl,G⟩
end
end
end Go.Proofs.YtffhepbppiocbadGreat