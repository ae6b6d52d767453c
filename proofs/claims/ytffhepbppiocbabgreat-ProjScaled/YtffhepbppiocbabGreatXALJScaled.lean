import Derived.Test.YtffhepbppiocbabGreatXAJH
namespace Go.Proofs.YtffhepbppiocbabGreat
open Go.RowKit Go.Proofs.Tryz
set_option maxRecDepth 100000
set_option maxHeartbeats 8000000
section
attribute [local go_sem ↓] uz1
attribute [local go_sem] uz2
section
attribute [local go_sem] uz7
attribute [local go_sem ↓] uz12 Go.wp_at_zero Go.wp_at_succ
attribute [local go_sem] uz13
attribute [local go_sem ↓] uz16
attribute [local go_sem] uz17
theorem scale_tr{k:Nat}(h1:1≤k)(h2:k≤15){T:T3}{Q:Q3}(h:TrQ k T Q){m:Nat}(lm:m<pN k)(h0:¬m=0):TrQ k (T.1*m%pN k,T.2.1*m%pN k,T.2.2*m%pN k) Q:=by
 haveI:=EC.nzP k h1 h2
 have f:=prm_pN k h1 h2;obtain⟨o,X,Y,Z,rfl,s⟩:=h;obtain⟨c,rfl⟩:∃c:Fin (pN k),m=c.val:=⟨⟨m,lm⟩,rfl⟩;have i:c≠0:=fun e=>h0 (by rw[e];exact Fin.val_zero _);refine⟨o,X*c,Y*c,Z*c,by rw[Fin.val_mul,Fin.val_mul,Fin.val_mul],fun {_}=>?_⟩;have d:=s
 match decQ (pN k) Q,d with
 | none,⟨a1,a2,a3⟩=>
  subst a1 a3;exact⟨by clear s d h0;grobner,EC.mul_ne f a2 i,by clear s d h0;grobner⟩
 | some (x,y),⟨a1,a2,a3⟩=>
  subst a2 a3;exact⟨EC.mul_ne f a1 i,by clear s d h0;grobner,by clear s d h0;grobner⟩
theorem ljscaled_any(id:Int)(n1 n2 n3:Nat)(bn1:n1<18446744073709551616)(bn2:n2<18446744073709551616)(bn3:n3<18446744073709551616)(w:World):Cg 8 #[.int .i64 id,.int .u64 n1,.int .u64 n2,.int .u64 n3] w (.bool true):=by
 obtain⟨u,hu,bb,hk⟩:=idx_conv id;have aE:=idx_bd id;obtain⟨k,aG⟩:=exl (idx id);rw[aG]at hk aE;obtain⟨K,L⟩:=aE
 have u0:(0:Int)≤u:=by omega
 have bc:(1:Int)+u%15=k:=by omega
 have bd:IntKind.i64.wrap ((u:Int)%15)=(u:Int)%15:=by rw[IntKind.wrap_i64];omega
 have be:IntKind.u64.wrap ((u:Int)%15)=(u:Int)%15:=by rw[IntKind.wrap_u64];omega
 have bf:(u:Int).tmod 15=(u:Int)%15:=by rw[Int.tmod_eq_emod_of_nonneg (by omega)]
 have k0:(1:Int)≤k:=by omega
 have k1:(k:Int)≤15:=by omega
 have bg:id%18446744073709551616=(u:Int):=by rw[←hu,IntKind.wrap_u64]
 clear aG hk;have aH:Hid (∀w,Calls prog 16 #[.int .i64 k] w (GetQ k w)):=fun w=>getq_yes k K L w;have aI:Hid (∀w,Cg 30 #[] w (.bool true)):=fun w=>awake15_any w
 go_enter func8,ntmps8
 go_upto_region 4 with (first
  | (go_at_call 30;refine(aI.out _).mono ?_;rintro e WA ⟨rfl,GA⟩)
  | (go_at_call 16;refine(aH.out _).mono ?_;rintro e WB ⟨B,rfl,HQ,GB⟩))
 obtain⟨e9,aB⟩:=exl (WB.heap.size);simp only[aB]
 refine gen_w (fun v=>Gr w v∧Vr v e9 (crA (k:Int) (nN k) B)∧∀j,Sl v (B j).1 (nN k j)) ?_ ?_
 ·subst aB;exact⟨(GA.trans GB).alloc _,Vr.new _ _ _,fun j=>(HQ j).gr ((Gr.refl _).alloc _)⟩
 clear aB GA GB HQ aI aH hu bb bc bd be bf bg u0 k0 k1;rintro v0 ⟨G,c9,HQ⟩;have bJ:=(prm_pN k K L).1
 have hd:dl (pN k)≤400:=by have:=dl_M (pN k) (pN_M k);omega
 have aJ:dl n2≤1000:=by have:=dl_M n2 (lt_M _ bn2);omega
 obtain⟨m,hm⟩:=exl (n2%pN k)
 by_cases h0:m=0
 ·have aC:dl m=0:=by rw[h0];rfl
  refine wp_w [.c (.int .u64 n2),.N n2,.n (n2),.c (pv e9 1),.c (.slice (B 0).1 (dl (pN k)) (B 0).2),.n (m),.n (m)] [1,2,4,5,6] ⟨.z (one_any _ bn2),.k _ fun f U d x=>RtW.of_n (fm_any (show n2<M from(lt_M _ bn2))),.o 25 1 c9 rfl rfl,.k (fun f =>#[.slice (f 2 0).1 (dl (n2)) (f 2 0).2,.slice (B 0).1 (dl (pN k)) (B 0).2]) fun f U d x=>RtW.of_n (Rt.n (hm▸rmod_any n2 (pN k) _ _ _ _ _ (x 2 rfl) ((HQ 0).gr d) aJ (by omega) (by omega))),.m 5,⟨⟩⟩ fun q v1 d h4=>?_;simp only[fzw];have J:Sl v1 (q 6 0).1 (m):=h4 6;clear h4;have h:=d;clear d
  go_upto_region 5 with fail
  refine wp_wS [.T,.F,.F,.c (.slice (q 6 0).1 (dl (m)) (q 6 0).2),.c (.int .i64 (dl (m))),.T,.T] [5] ⟨.s (.binOp .eql 3 (.const (.int .i64 (dl (m)))) (.const (.int .i64 0)) 3) rfl fun U d=>by simp[go_sem,exI,aC],⟨⟩⟩ fun bh v2 d h5=>?_;simp only[fzw];clear h5;replace h:=h.trans d;have C:=d;clear d
  go_upto_region 6 with fail
  refine wp_wS [.T,.T] [] ⟨⟩ fun bK v3 d h6=>?_;simp only[fzw];clear h6;replace h:=h.trans d;replace C:=C.trans d;clear d;replace G:=G.trans h;replace c9:=c9.gr h;replace HQ:=fun k=>(HQ k).gr h;replace J:=J.gr C;clear h C
  go_wp2_with fail
  go_ret
  exact⟨rfl,G⟩
 ·skip
  obtain⟨P,hP⟩:=exl (mlQ k n1 (gQ k));have oP:OnQ k P:=hP▸mlQ_on K L _ (gQ_on K L);have bP:=bn1;obtain⟨D,aK⟩:=exl (frT P);have H:TrQ k D P:=aK▸frT_tr K L oP;obtain⟨Q,hQ⟩:=exl (mlQ k n3 (gQ k));have oQ:OnQ k Q:=hQ▸mlQ_on K L _ (gQ_on K L);have bQ:=bn3;obtain⟨S2,aL⟩:=exl (frT Q);have ak:TrQ k S2 Q:=aL▸frT_tr K L oQ
  have aM:dl n1≤400:=by have:=dl_M n1 (lt_M _ bn1);omega
  have aO:dl n3≤400:=by have:=dl_M n3 (lt_M _ bn3);omega
  have lm:m<pN k:=hm▸Nat.mod_lt _ (by omega);have lS:D.1<M∧D.2.1<M∧D.2.2<M:=⟨Nat.lt_trans H.lt.1 (pN_M k),Nat.lt_trans H.lt.2.1 (pN_M k),Nat.lt_trans H.lt.2.2 (pN_M k)⟩;obtain⟨V,hV,bi,aP,aQ⟩:∃V:T3,V=(D.1*m%pN k,D.2.1*m%pN k,D.2.2*m%pN k)∧D.1*m%pN k=V.1∧D.2.1*m%pN k=V.2.1∧D.2.2*m%pN k=V.2.2:=⟨_,rfl,rfl,rfl,rfl⟩;have aD:TrQ k V P:=hV▸scale_tr K L H lm h0;obtain⟨A1,aR⟩:=exl (addT k V S2);obtain⟨X,hX⟩:=exl (plQ k P Q);have oX:OnQ k X:=hX▸plQ_on K L oP oQ;have aS:TrQ k A1 X:=aR▸hX▸addT_tr K L aD ak;obtain⟨A2,aT⟩:=exl (addT k S2 D)
  have aU:TrQ k A2 X:=by have:=addT_tr K L ak H;rw[aT,plQ_comm K L oQ oP,hX]at this;exact this
  have aC:¬dl m=0:=fun e=>h0 (dl_eq_zero m e);refine wp_w [.c (.int .u64 n2),.N n2,.n (n2),.c (pv e9 1),.c (.slice (B 0).1 (dl (pN k)) (B 0).2),.n (m),.n (m)] [1,2,4,5,6] ⟨.z (one_any _ bn2),.k _ fun f U d x=>RtW.of_n (fm_any (show n2<M from(lt_M _ bn2))),.o 25 1 c9 rfl rfl,.k (fun f =>#[.slice (f 2 0).1 (dl (n2)) (f 2 0).2,.slice (B 0).1 (dl (pN k)) (B 0).2]) fun f U d x=>RtW.of_n (Rt.n (hm▸rmod_any n2 (pN k) _ _ _ _ _ (x 2 rfl) ((HQ 0).gr d) aJ (by omega) (by omega))),.m 5,⟨⟩⟩ fun q v1 d h4=>?_;simp only[fzw];have J:Sl v1 (q 6 0).1 (m):=h4 6;clear h4;have h:=d;clear d
  go_upto_region 5 with fail
  refine wp_wS [.T,.F,.F,.c (.slice (q 6 0).1 (dl (m)) (q 6 0).2),.c (.int .i64 (dl (m))),.F,.F] [5] ⟨.s (.binOp .eql 3 (.const (.int .i64 (dl (m)))) (.const (.int .i64 0)) 3) rfl fun U d=>by simp[go_sem,exI,aC],⟨⟩⟩ fun bh v2 d h5=>?_;simp only[fzw];clear h5;replace h:=h.trans d;have C:=d;clear d
  go_upto_region 7 with fail
  refine wp_v true [.c (.agg (crA (k:Int) (nN k) B)),.c (.int .u64 n1),.N n1,.n (n1),.c (.agg (crA (k:Int) (nN k) B)),.pt (xN k) (yN k) false,.pt (P.1) (P.2.1) P.2.2,.c (.agg (pnQ P)),.a,.u] [0,2,3,4,5,6,7] [⟨8,9,35,pnt 0 0 false,fun _=>pnQ P⟩] ⟨.g 27 0 (c9.gr h) rfl,.z (one_any _ bn1),.k _ fun f U d x=>RtW.of_n (fm_any (show n1<M from(lt_M _ bn1))),.g 27 0 (c9.gr h) rfl,.k _ fun f U d x=>RtW.of_pt (rg_any B _ (fun j=>(HQ j).gr (h.trans d))),.k (fun f =>#[.agg (crA (k:Int) (nN k) B),.slice (f 3 0).1 (dl (n1)) (f 3 0).2,.agg (ptA (f 5 0).1 (xN k) (f 5 0).2 (f 5 1).1 (yN k) (f 5 1).2 false)]) fun f U d x=>RtW.of_pt (hP▸rtimesQ k K L B (gQ_on K L) aM (fun j=>(HQ j).gr (h.trans d)) (x 3 rfl) (x 5 rfl).1 (x 5 rfl).2),.k (fun f =>#[.agg (ptA (f 6 0).1 (P.1) (f 6 0).2 (f 6 1).1 (P.2.1) (f 6 1).2 P.2.2)]) fun f U d x=>RtW.of_c (Rt.c (rout_any _ _ _ _ _ _ _ _ (x 6 rfl).1 (x 6 rfl).2)),⟨⟩⟩ ⟨.k zPnt ⟨fkc,fkc,fkc,fkn bPnt,fkc,fkp bPnt,fkp bPnt,fkc,fka,fku,trivial⟩,⟨⟩⟩ fun aV v3 d h7 bj=>?_;simp only[fzw,Kw.a];obtain⟨⟨bE,ao⟩,-⟩:(v2.heap.size≤(aV 8 0).2∧Vr v3 (aV 8 0).2 (pnQ P))∧True:=bj;clear h7;replace h:=h.trans d;replace C:=C.trans d;clear d
  go_upto_region 8 with fail
  refine wp_v true [.c (.agg (crA (k:Int) (nN k) B)),.c (.int .u64 n3),.N n3,.n (n3),.c (.agg (crA (k:Int) (nN k) B)),.pt (xN k) (yN k) false,.pt (Q.1) (Q.2.1) Q.2.2,.c (.agg (pnQ Q)),.a,.u] [0,2,3,4,5,6,7] [⟨8,9,35,pnt 0 0 false,fun _=>pnQ Q⟩] ⟨.g 27 0 (c9.gr h) rfl,.z (one_any _ bn3),.k _ fun f U d x=>RtW.of_n (fm_any (show n3<M from(lt_M _ bn3))),.g 27 0 (c9.gr h) rfl,.k _ fun f U d x=>RtW.of_pt (rg_any B _ (fun j=>(HQ j).gr (h.trans d))),.k (fun f =>#[.agg (crA (k:Int) (nN k) B),.slice (f 3 0).1 (dl (n3)) (f 3 0).2,.agg (ptA (f 5 0).1 (xN k) (f 5 0).2 (f 5 1).1 (yN k) (f 5 1).2 false)]) fun f U d x=>RtW.of_pt (hQ▸rtimesQ k K L B (gQ_on K L) aO (fun j=>(HQ j).gr (h.trans d)) (x 3 rfl) (x 5 rfl).1 (x 5 rfl).2),.k (fun f =>#[.agg (ptA (f 6 0).1 (Q.1) (f 6 0).2 (f 6 1).1 (Q.2.1) (f 6 1).2 Q.2.2)]) fun f U d x=>RtW.of_c (Rt.c (rout_any _ _ _ _ _ _ _ _ (x 6 rfl).1 (x 6 rfl).2)),⟨⟩⟩ ⟨.k zPnt ⟨fkc,fkc,fkc,fkn bPnt,fkc,fkp bPnt,fkp bPnt,fkc,fka,fku,trivial⟩,⟨⟩⟩ fun aW v4 d h8 bk=>?_;simp only[fzw,Kw.a];obtain⟨⟨bG,ap⟩,-⟩:(v3.heap.size≤(aW 8 0).2∧Vr v4 (aW 8 0).2 (pnQ Q))∧True:=bk;clear h8;replace h:=h.trans d;replace C:=C.trans d;have Z:=d;clear d
  go_upto_region 9 with fail
  refine wp_v false [.c (pv e9 0),.c (.int .i64 k),.c (.agg (pnQ P)),.E (.agg (pjT D)),.E (.agg (pjT D)),.c (.agg (pjT D)),.O,.a,.u,.O] [1,2,3] [⟨7,8,53,prj 0 0 0,fun _=>pjT D⟩] ⟨.o 3 0 (c9.gr h) rfl rfl,.g 35 0 (ao.gr Z) rfl,.z (fromQ K L (P:=P) (T:=D) oP aK),⟨⟩⟩ ⟨.k zPj (.t rfl),⟨⟩⟩ fun aq v5 d h9 bm=>?_;simp only[fzw,Kw.a];obtain⟨⟨bH,aa⟩,-⟩:(v4.heap.size≤(aq 7 0).2∧Vr v5 (aq 7 0).2 (pjT D))∧True:=bm;clear h9;replace h:=h.trans d;replace C:=C.trans d;replace Z:=Z.trans d;have g9:=d;clear d
  go_upto_region 10 with fail
  refine wp_v false [.c (pv e9 0),.c (.int .i64 k),.c (.agg (pnQ Q)),.E (.agg (pjT S2)),.E (.agg (pjT S2)),.c (.agg (pjT S2)),.O,.a,.u,.O] [1,2,3] [⟨7,8,53,prj 0 0 0,fun _=>pjT S2⟩] ⟨.o 3 0 (c9.gr h) rfl rfl,.g 35 0 (ap.gr g9) rfl,.z (fromQ K L (P:=Q) (T:=S2) oQ aL),⟨⟩⟩ ⟨.k zPj (.t rfl),⟨⟩⟩ fun au v6 d bn a0=>?_;simp only[fzw,Kw.a];obtain⟨⟨bo,ab⟩,-⟩:(v5.heap.size≤(au 7 0).2∧Vr v6 (au 7 0).2 (pjT S2))∧True:=a0;clear bn;replace h:=h.trans d;replace C:=C.trans d;replace Z:=Z.trans d;replace g9:=g9.trans d;have i:=d;clear d
  go_upto_region 11 with fail
  refine wp_v true [.c (pv ((aq 7 0).2) 0),.N D.1,.n (D.1),.c (.slice (q 6 0).1 (dl (m)) (q 6 0).2),.c (pv e9 1),.c (.slice (B 0).1 (dl (pN k)) (B 0).2),.n (V.1),.N V.1,.c (pv ((aq 7 0).2) 9),.N D.2.1,.n (D.2.1),.c (.slice (q 6 0).1 (dl (m)) (q 6 0).2),.c (pv e9 1),.c (.slice (B 0).1 (dl (pN k)) (B 0).2),.n (V.2.1),.N V.2.1,.c (pv ((aq 7 0).2) 18),.N D.2.2,.n (D.2.2),.c (.slice (q 6 0).1 (dl (m)) (q 6 0).2),.c (pv e9 1),.c (.slice (B 0).1 (dl (pN k)) (B 0).2),.n (V.2.2),.N V.2.2,.c (.agg (pjT V)),.a,.u] [1,2,5,6,7,9,10,13,14,15,17,18,21,22,23] [⟨25,26,53,prj 0 0 0,fun _=>pjT V⟩] ⟨.g 33 0 (aa.gr i) rfl,.k _ fun f U d x=>RtW.of_n (fm_any (show D.1<M from lS.1)),.o 25 1 (c9.gr h) rfl rfl,.k (fun f =>#[.slice (f 2 0).1 (dl (D.1)) (f 2 0).2,.slice (q 6 0).1 (dl (m)) (q 6 0).2,.slice (B 0).1 (dl (pN k)) (B 0).2]) fun f U d x=>RtW.of_n (mm_any (x 2 rfl) (J.gr (C.trans d)) ((HQ 0).gr (h.trans d)) H.lt.1 lm hd bi),.k (fun f =>#[.slice (f 6 0).1 (dl (V.1)) (f 6 0).2]) fun f U d x=>RtW.of_c (nt_any (x 6 rfl)),.g 33 9 (aa.gr i) rfl,.k _ fun f U d x=>RtW.of_n (fm_any (show D.2.1<M from lS.2.1)),.o 25 1 (c9.gr h) rfl rfl,.k (fun f =>#[.slice (f 10 0).1 (dl (D.2.1)) (f 10 0).2,.slice (q 6 0).1 (dl (m)) (q 6 0).2,.slice (B 0).1 (dl (pN k)) (B 0).2]) fun f U d x=>RtW.of_n (mm_any (x 10 rfl) (J.gr (C.trans d)) ((HQ 0).gr (h.trans d)) H.lt.2.1 lm hd aP),.k (fun f =>#[.slice (f 14 0).1 (dl (V.2.1)) (f 14 0).2]) fun f U d x=>RtW.of_c (nt_any (x 14 rfl)),.g 33 18 (aa.gr i) rfl,.k _ fun f U d x=>RtW.of_n (fm_any (show D.2.2<M from lS.2.2)),.o 25 1 (c9.gr h) rfl rfl,.k (fun f =>#[.slice (f 18 0).1 (dl (D.2.2)) (f 18 0).2,.slice (q 6 0).1 (dl (m)) (q 6 0).2,.slice (B 0).1 (dl (pN k)) (B 0).2]) fun f U d x=>RtW.of_n (mm_any (x 18 rfl) (J.gr (C.trans d)) ((HQ 0).gr (h.trans d)) H.lt.2.2 lm hd aQ),.k (fun f =>#[.slice (f 22 0).1 (dl (V.2.2)) (f 22 0).2]) fun f U d x=>RtW.of_c (nt_any (x 22 rfl)),⟨⟩⟩ ⟨.k zPj ⟨fkc,fkc,fkn bPj,fkc,fkc,fkc,fkn bPj,fkc,fkc,fkc,fkn bPj,fkc,fkc,fkc,fkn bPj,fkc,fkc,fkc,fkn bPj,fkc,fkc,fkc,fkn bPj,fkc,fkc,fka,fku,trivial⟩,⟨⟩⟩ fun av v7 d bp a1=>?_;simp only[fzw,Kw.a];obtain⟨⟨ba,W⟩,-⟩:(v6.heap.size≤(av 25 0).2∧Vr v7 (av 25 0).2 (pjT V))∧True:=a1;clear bp;replace i:=i.trans d;replace h:=h.trans d;replace C:=C.trans d;replace Z:=Z.trans d;replace g9:=g9.trans d;have A:=d;clear d
  go_upto_region 12 with fail
  refine wp_v false [.c (pv e9 0),.c (.int .i64 k),.c (.agg (pjT V)),.E (.agg (pnQ P)),.E (.agg (pnQ P)),.c (.agg (pnQ P)),.O,.a,.u,.O] [1,2,3] [⟨7,8,35,pnt 0 0 false,fun _=>pnQ P⟩] ⟨.o 3 0 (c9.gr h) rfl rfl,.g 53 0 W rfl,.z (toQ K L (T:=V) (Q:=P) aD),⟨⟩⟩ ⟨.k zPnt (.t rfl),⟨⟩⟩ fun aw v8 d bq a2=>?_;simp only[fzw,Kw.a];obtain⟨⟨br,ae⟩,-⟩:(v7.heap.size≤(aw 7 0).2∧Vr v8 (aw 7 0).2 (pnQ P))∧True:=a2;clear bq;replace i:=i.trans d;replace A:=A.trans d;replace h:=h.trans d;replace C:=C.trans d;replace Z:=Z.trans d;replace g9:=g9.trans d;have I:=d;clear d
  go_upto_region 13 with fail
  refine wp_v false [.c (pv e9 0),.c (.int .i64 k),.c (.agg (pjT V)),.c (.agg (pjT S2)),.E (.agg (pjT A1)),.E (.agg (pjT A1)),.c (.agg (pjT A1)),.O,.a,.u,.O] [1,2,3,4] [⟨8,9,53,prj 0 0 0,fun _=>pjT A1⟩] ⟨.o 3 0 (c9.gr h) rfl rfl,.g 53 0 (W.gr I) rfl,.g 53 0 (ab.gr A) rfl,.z (jaddQ K L (S:=V) (T:=S2) (R:=A1) aD ak aR),⟨⟩⟩ ⟨.k zPj (.t rfl),⟨⟩⟩ fun ax v9 d bs a3=>?_;simp only[fzw,Kw.a];obtain⟨⟨bt,af⟩,-⟩:(v8.heap.size≤(ax 8 0).2∧Vr v9 (ax 8 0).2 (pjT A1))∧True:=a3;clear bs;replace i:=i.trans d;replace A:=A.trans d;replace I:=I.trans d;replace h:=h.trans d;replace C:=C.trans d;replace Z:=Z.trans d;replace g9:=g9.trans d;have Y:=d;clear d
  go_upto_region 14 with fail
  refine wp_v false [.c (pv e9 0),.c (.int .i64 k),.c (.agg (pjT S2)),.c (.agg (pjT D)),.E (.agg (pjT A2)),.E (.agg (pjT A2)),.c (.agg (pjT A2)),.O,.a,.u,.O] [1,2,3,4] [⟨8,9,53,prj 0 0 0,fun _=>pjT A2⟩] ⟨.o 3 0 (c9.gr h) rfl rfl,.g 53 0 (ab.gr A) rfl,.g 53 0 (aa.gr i) rfl,.z (jaddQ K L (S:=S2) (T:=D) (R:=A2) ak H aT),⟨⟩⟩ ⟨.k zPj (.t rfl),⟨⟩⟩ fun ay a4 d bu a5=>?_;simp only[fzw,Kw.a];obtain⟨⟨bv,ag⟩,-⟩:(v9.heap.size≤(ay 8 0).2∧Vr a4 (ay 8 0).2 (pjT A2))∧True:=a5;clear bu;replace i:=i.trans d;replace A:=A.trans d;replace I:=I.trans d;replace Y:=Y.trans d;replace h:=h.trans d;replace C:=C.trans d;replace Z:=Z.trans d;replace g9:=g9.trans d;have ac:=d;clear d
  go_upto_region 15 with fail
  refine wp_v false [.c (pv e9 0),.c (.int .i64 k),.c (.agg (pjT A1)),.E (.agg (pnQ X)),.E (.agg (pnQ X)),.c (.agg (pnQ X)),.O,.a,.u,.O] [1,2,3] [⟨7,8,35,pnt 0 0 false,fun _=>pnQ X⟩] ⟨.o 3 0 (c9.gr h) rfl rfl,.g 53 0 (af.gr ac) rfl,.z (toQ K L (T:=A1) (Q:=X) aS),⟨⟩⟩ ⟨.k zPnt (.t rfl),⟨⟩⟩ fun az a6 d bx a7=>?_;simp only[fzw,Kw.a];obtain⟨⟨bz,ah⟩,-⟩:(a4.heap.size≤(az 7 0).2∧Vr a6 (az 7 0).2 (pnQ X))∧True:=a7;clear bx;replace i:=i.trans d;replace A:=A.trans d;replace I:=I.trans d;replace Y:=Y.trans d;replace ac:=ac.trans d;replace h:=h.trans d;replace C:=C.trans d;replace Z:=Z.trans d;replace g9:=g9.trans d;have ai:=d;clear d
  go_upto_region 16 with fail
  refine wp_v false [.c (pv e9 0),.c (.int .i64 k),.c (.agg (pjT A2)),.E (.agg (pnQ X)),.E (.agg (pnQ X)),.c (.agg (pnQ X)),.O,.a,.u,.O] [1,2,3] [⟨7,8,35,pnt 0 0 false,fun _=>pnQ X⟩] ⟨.o 3 0 (c9.gr h) rfl rfl,.g 53 0 (ag.gr ai) rfl,.z (toQ K L (T:=A2) (Q:=X) aU),⟨⟩⟩ ⟨.k zPnt (.t rfl),⟨⟩⟩ fun aA bA d bB a8=>?_;simp only[fzw,Kw.a];obtain⟨⟨bC,aj⟩,-⟩:(a6.heap.size≤(aA 7 0).2∧Vr bA (aA 7 0).2 (pnQ X))∧True:=a8;clear bB;replace i:=i.trans d;replace A:=A.trans d;replace I:=I.trans d;replace Y:=Y.trans d;replace ac:=ac.trans d;replace ai:=ai.trans d;replace h:=h.trans d;replace C:=C.trans d;replace Z:=Z.trans d;replace g9:=g9.trans d;have ar:=d;clear d
  go_upto_region 17 with fail
  refine wp_wS [.O,.O,.T,.T,.O,.O,.T,.T,.T,.O,.O,.T,.T,.T,.O,.O,.T,.T,.T,.O,.O,.T,.T,.T,.c (.agg (pnQ P)),.c (.agg (pnQ P)),.T,.T,.T,.c (.agg (pnQ X)),.c (.agg (pnQ X)),.T,.T,.T] [1,5,10,15,20,24,25,26,29,30,31] ?hs16 ?hf16
  case hs16=>
   exact⟨.y (num_any _),.y (num_any _),.y (num_any _),.y (num_any _),.y (num_any _),.g 35 0 (ae.gr Y) rfl,.g 35 0 (ao.gr Z) rfl,.s (.binOp .eql 35 (.const (.agg (pnQ P))) (.const (.agg (pnQ P))) 35) rfl fun U d=>by simp[go_sem,exI,eqPn,eqN_self],.g 35 0 (ah.gr ar) rfl,.g 35 0 aj rfl,.s (.binOp .eql 35 (.const (.agg (pnQ X))) (.const (.agg (pnQ X))) 35) rfl fun U d=>by simp[go_sem,exI,eqPn,eqN_self],⟨⟩⟩
  intro bI bL d bD;simp only[fzw];clear bD;replace i:=i.trans d;replace A:=A.trans d;replace I:=I.trans d;replace Y:=Y.trans d;replace ac:=ac.trans d;replace ai:=ai.trans d;replace ar:=ar.trans d;replace h:=h.trans d;replace C:=C.trans d;replace Z:=Z.trans d;replace g9:=g9.trans d;have a9:=d;clear d;replace G:=G.trans h;replace c9:=c9.gr h;replace HQ:=fun k=>(HQ k).gr h;replace J:=J.gr C;replace ao:=ao.gr Z;replace ap:=ap.gr g9;replace aa:=aa.gr i;replace ab:=ab.gr A;replace W:=W.gr I;replace ae:=ae.gr Y;replace af:=af.gr ac;replace ag:=ag.gr ai;replace ah:=ah.gr ar;replace aj:=aj.gr a9;clear i A I Y ac ai ar a9 h C Z g9
  go_wp2_with fail
  go_ret
  exact⟨rfl,G⟩
end
end
end Go.Proofs.YtffhepbppiocbabGreat