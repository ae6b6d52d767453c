import Derived.Test.YtffhepbppiocbadGreatXAQQ
namespace Go.Proofs.YtffhepbppiocbadGreat
open Go.RowKit Go.Proofs.Tryz
set_option maxRecDepth 100000
set_option maxHeartbeats 8000000
section
attribute [local go_sem ↓] uz1
attribute [local go_sem] uz2
section
attribute [local go_sem] uz8
attribute [local go_sem ↓] uz17 Go.wp_at_zero Go.wp_at_succ
attribute [local go_sem] uz18
theorem lsduals_0(id:Int)(h:id<1∨15<id){x y:Nat}(hx:x<M)(hy:y<M){Q:Q3}(lQ:Q.1<M∧Q.2.1<M)(w:World):Cg 5 #[.int .i64 id,.agg (nw 9 x),.agg (nw 9 y),.agg (pnQ Q)] w (.bool true):=by
 have V:Hid (∀w,Cg 10 #[.int .i64 id] w (.tuple #[.agg #[.int .i64 0,.slice none 0 0,.slice none 0 0,.slice none 0 0,.slice none 0 0,.slice none 0 0,.slice none 0 0],.bool false])):=fun w=>get_no id h w;have aa:Hid (∀w,Cg 24 #[] w (.bool true)):=fun w=>awake20_any w
 go_enter func5,ntmps5
 go_upto_region 1 with fail
 refine gen_w (fun v=>Hid (Gr w v∧Vr v (w.heap.size) (nw 9 x)∧Vr v (w.heap.size+1) (nw 9 y)∧Vr v (w.heap.size+1+1) (pnQ Q))) ⟨grA,vrA,vrA,vrA⟩ ?_;intro u0 HV
 go_upto_region 2 with (go_at_call 10;refine(V.out _).mono ?_;rintro e WB ⟨rfl,W⟩)
 obtain⟨e7,J⟩:=exl (WB.heap.size);simp only[J]
 refine gen_w (fun v=>Gr w v∧Vr v (w.heap.size) (nw 9 x)∧Vr v (w.heap.size+1) (nw 9 y)∧Vr v (w.heap.size+1+1) (pnQ Q)) ?_ ?_
 ·subst J;obtain⟨G,P,S,U⟩:=HV.out;have Z:Gr WB (WB.alloc (.cells (#[.int .i64 0,.slice none 0 0,.slice none 0 0,.slice none 0 0,.slice none 0 0,.slice none 0 0,.slice none 0 0]) 30)):=(Gr.refl _).alloc _;exact⟨(G.trans W).trans Z,(P.gr W).gr Z,(S.gr W).gr Z,(U.gr W).gr Z⟩
 clear J W V HV;rintro v0 ⟨G,P,S,U⟩;refine wp_v false [.c (.int .i64 id),.N x,.N y,.c (.agg (pnQ Q)),.c (.tuple #[.agg (pnt 0 0 false),.int .i64 2000]),.c (.tuple #[.agg (pnt 0 0 false),.int .i64 2000]),.c (.agg (pnt 0 0 false)),.c (.int .i64 2000),.a,.u,.c (.int .i64 2000)] [1,2,3,4] [⟨8,9,38,pnt 0 0 false,fun _=>pnt 0 0 false⟩] ⟨.g 25 0 P rfl,.g 25 0 S rfl,.g 38 0 U rfl,.z (dmul_no id h (Q:=Q) (x:=x) (y:=y)),⟨⟩⟩ ⟨.k zPnt (.t rfl),⟨⟩⟩ fun X v1 f h2 ab=>?_;simp only[fzw,Kw.a];obtain⟨⟨ae,j⟩,-⟩:(v0.heap.size≤(X 8 0).2∧Vr v1 (X 8 0).2 (pnt 0 0 false))∧True:=ab;clear h2;have i:=f;clear f
 go_upto_region 3 with fail
 refine wp_v true [.N x,.n (x),.N y,.n (y),.c (.agg (pnQ Q)),.pt (Q.1) (Q.2.1) Q.2.2,.a,.n (x),.n (y),.u] [0,1,2,3,4,5,7,8] [⟨6,9,54,ptA none 0 0 none 0 0 false,fun K=>ptA (K 5 0).1 (Q.1) (K 5 0).2 (K 5 1).1 (Q.2.1) (K 5 1).2 Q.2.2⟩] ⟨.g 25 0 (P.gr i) rfl,.k _ fun K vv f hh=>RtW.of_n (fm_any hx),.g 25 0 (S.gr i) rfl,.k _ fun K vv f hh=>RtW.of_n (fm_any hy),.g 38 0 (U.gr i) rfl,.k _ fun K vv f hh=>RtW.of_pt (rin_any _ _ _ lQ.1 lQ.2 _),.m 1,.m 3,⟨⟩⟩ ⟨.mk (fun _ _ h=>Value.agg.inj (h 5 rfl)) (fun _ v b H F=>by dsimp only at H ⊢;simp[go_sem,exI,H,F]) zPt ⟨fkc,fkn bPt,fkc,fkn bPt,fkc,fkp bPt,fka,fkn bPt,fkn bPt,fku,trivial⟩,⟨⟩⟩ fun d Y f h3 ac=>?_;simp only[fzw,Kw.a];obtain⟨q,A⟩:Sl Y (d 5 0).1 (Q.1)∧Sl Y (d 5 1).1 (Q.2.1):=h3 5;have B:Sl Y (d 7 0).1 (x):=h3 7;have C:Sl Y (d 8 0).1 (y):=h3 8;obtain⟨⟨af,D⟩,-⟩:(v1.heap.size≤(d 6 0).2∧Vr Y (d 6 0).2 (ptA (d 5 0).1 (Q.1) (d 5 0).2 (d 5 1).1 (Q.2.1) (d 5 1).2 Q.2.2))∧True:=ac;clear h3;replace i:=i.trans f;have L:=f;clear f
 go_upto_region 4 with fail
 refine wp_wS [.F,.T,.T] [] ⟨⟩ fun ag v3 f h4=>?_;simp only[fzw];clear h4;replace i:=i.trans f;replace L:=L.trans f;have I:=f;clear f
 go_upto_region 5 with fail
 refine wp_wS [.c (.int .i64 2000),.c (.int .i64 2000),.T,.T,.c (.agg (pnt 0 0 false)),.c (.agg (pnt 0 0 false)),.T,.T,.T,.T,.T,.T] [1,4,6,9] ⟨.y (num_any _),.g 38 0 (j.gr L) rfl,.s (.binOp .eql 38 (.const (.agg (pnt 0 0 false))) (.const (.agg (pnt 0 0 false))) 38) rfl fun vv f=>by simp[go_sem,exI,eqPn,eqN_self],.z aa.out,⟨⟩⟩ fun ah v4 f h5=>?_;simp only[fzw];clear h5;replace i:=i.trans f;replace L:=L.trans f;replace I:=I.trans f;clear f;replace G:=G.trans i;replace P:=P.gr i;replace S:=S.gr i;replace U:=U.gr i;replace j:=j.gr L;replace D:=D.gr I;replace q:=q.gr I;replace A:=A.gr I;replace B:=B.gr I;replace C:=C.gr I;clear i L I
 go_wp2_with fail
 go_ret
 exact⟨rfl,G⟩
theorem lsduals_1{k:Nat}(h1:1≤k)(h2:k≤15){x y:Nat}(hx:x<M)(hy:y<M){Q:Q3}(lQ:Q.1<M∧Q.2.1<M)(oQ:onB k Q.1 Q.2.1 Q.2.2=false)(w:World):Cg 5 #[.int .i64 k,.agg (nw 9 x),.agg (nw 9 y),.agg (pnQ Q)] w (.bool true):=by
 have Y:Hid (∀w,Calls prog 10 #[.int .i64 k] w (GetQ k w)):=fun w=>getq_yes k h1 h2 w;have ab:Hid (∀w,Cg 24 #[] w (.bool true)):=fun w=>awake20_any w
 go_enter func5,ntmps5
 go_upto_region 1 with fail
 refine gen_w (fun v=>Hid (Gr w v∧Vr v (w.heap.size) (nw 9 x)∧Vr v (w.heap.size+1) (nw 9 y)∧Vr v (w.heap.size+1+1) (pnQ Q))) ⟨grA,vrA,vrA,vrA⟩ ?_;intro u0 HV
 go_upto_region 2 with (go_at_call 10;refine(Y.out _).mono ?_;rintro e WB ⟨S,rfl,U,Z⟩)
 obtain⟨e7,P⟩:=exl (WB.heap.size);simp only[P]
 refine gen_w (fun v=>Gr w v∧Vr v (w.heap.size) (nw 9 x)∧Vr v (w.heap.size+1) (nw 9 y)∧Vr v (w.heap.size+1+1) (pnQ Q)∧Vr v e7 (crA (k:Int) (nN k) S)∧∀j,Sl v (S j).1 (nN k j)) ?_ ?_
 ·subst P;obtain⟨G,V,W,X⟩:=HV.out;have g1:Gr WB (WB.alloc (.cells (crA (k:Int) (nN k) S) 30)):=(Gr.refl _).alloc _;exact⟨(G.trans Z).trans g1,(V.gr Z).gr g1,(W.gr Z).gr g1,(X.gr Z).gr g1,Vr.new _ _ _,fun j=>(U j).gr g1⟩
 clear P Z Y HV U;rintro v0 ⟨G,V,W,X,c7,U⟩;refine wp_v false [.c (.int .i64 k),.N x,.N y,.c (.agg (pnQ Q)),.c (.tuple #[.agg (pnt 0 0 false),.int .i64 2001]),.c (.tuple #[.agg (pnt 0 0 false),.int .i64 2001]),.c (.agg (pnt 0 0 false)),.c (.int .i64 2001),.a,.u,.c (.int .i64 2001)] [1,2,3,4] [⟨8,9,38,pnt 0 0 false,fun _=>pnt 0 0 false⟩] ⟨.g 25 0 V rfl,.g 25 0 W rfl,.g 38 0 X rfl,.z (dmul_off h1 h2 (Q:=Q) lQ oQ (x:=x) (y:=y)),⟨⟩⟩ ⟨.k zPnt (.t rfl),⟨⟩⟩ fun aa v1 f h2 ac=>?_;simp only[fzw,Kw.a];obtain⟨⟨af,A⟩,-⟩:(v0.heap.size≤(aa 8 0).2∧Vr v1 (aa 8 0).2 (pnt 0 0 false))∧True:=ac;clear h2;have i:=f;clear f
 go_upto_region 3 with fail
 refine wp_v true [.N x,.n (x),.N y,.n (y),.c (.agg (pnQ Q)),.pt (Q.1) (Q.2.1) Q.2.2,.a,.n (x),.n (y),.u] [0,1,2,3,4,5,7,8] [⟨6,9,54,ptA none 0 0 none 0 0 false,fun I=>ptA (I 5 0).1 (Q.1) (I 5 0).2 (I 5 1).1 (Q.2.1) (I 5 1).2 Q.2.2⟩] ⟨.g 25 0 (V.gr i) rfl,.k _ fun I vv f hh=>RtW.of_n (fm_any hx),.g 25 0 (W.gr i) rfl,.k _ fun I vv f hh=>RtW.of_n (fm_any hy),.g 38 0 (X.gr i) rfl,.k _ fun I vv f hh=>RtW.of_pt (rin_any _ _ _ lQ.1 lQ.2 _),.m 1,.m 3,⟨⟩⟩ ⟨.mk (fun _ _ h=>Value.agg.inj (h 5 rfl)) (fun _ v b H F=>by dsimp only at H ⊢;simp[go_sem,exI,H,F]) zPt ⟨fkc,fkn bPt,fkc,fkn bPt,fkc,fkp bPt,fka,fkn bPt,fkn bPt,fku,trivial⟩,⟨⟩⟩ fun d v2 f h3 ae=>?_;simp only[fzw,Kw.a];obtain⟨B,C⟩:Sl v2 (d 5 0).1 (Q.1)∧Sl v2 (d 5 1).1 (Q.2.1):=h3 5;have K:Sl v2 (d 7 0).1 (x):=h3 7;have L:Sl v2 (d 8 0).1 (y):=h3 8;obtain⟨⟨ag,D⟩,-⟩:(v1.heap.size≤(d 6 0).2∧Vr v2 (d 6 0).2 (ptA (d 5 0).1 (Q.1) (d 5 0).2 (d 5 1).1 (Q.2.1) (d 5 1).2 Q.2.2))∧True:=ae;clear h3;replace i:=i.trans f;have J:=f;clear f
 go_upto_region 4 with fail
 refine wp_wS [.T,.F,.F] [] ⟨⟩ fun ah v3 f h4=>?_;simp only[fzw];clear h4;replace i:=i.trans f;replace J:=J.trans f;have q:=f;clear f
 go_upto_region 6 with fail
 refine wp_wS [.c (.agg (crA (k:Int) (nN k) S)),.c (.agg (ptA (d 5 0).1 (Q.1) (d 5 0).2 (d 5 1).1 (Q.2.1) (d 5 1).2 Q.2.2)),.F,.T,.T] [0,1,2] ⟨.g 30 0 (c7.gr i) rfl,.g 54 0 (D.gr q) rfl,.k (fun I =>#[.agg (crA (k:Int) (nN k) S),.agg (ptA (d 5 0).1 (Q.1) (d 5 0).2 (d 5 1).1 (Q.2.1) (d 5 1).2 Q.2.2)]) fun I vv f hh=>RtW.of_c (ron_is h1 h2 lQ oQ S (fun j=>(U j).gr (i.trans f)) (B.gr (q.trans f)) (C.gr (q.trans f))),⟨⟩⟩ fun ai v4 f h6=>?_;simp only[fzw];clear h6;replace i:=i.trans f;replace J:=J.trans f;replace q:=q.trans f;clear f
 go_upto_region 7 with fail
 refine wp_wS [.c (.int .i64 2001),.c (.int .i64 2001),.T,.T,.c (.agg (pnt 0 0 false)),.c (.agg (pnt 0 0 false)),.T,.T,.T,.T,.T,.T] [1,4,6,9] ⟨.y (num_any _),.g 38 0 (A.gr J) rfl,.s (.binOp .eql 38 (.const (.agg (pnt 0 0 false))) (.const (.agg (pnt 0 0 false))) 38) rfl fun vv f=>by simp[go_sem,exI,eqPn,eqN_self],.z ab.out,⟨⟩⟩ fun aj v5 f h7=>?_;simp only[fzw];clear h7;replace i:=i.trans f;replace J:=J.trans f;replace q:=q.trans f;clear f;replace G:=G.trans i;replace V:=V.gr i;replace W:=W.gr i;replace X:=X.gr i;replace c7:=c7.gr i;replace U:=fun k=>(U k).gr i;replace A:=A.gr J;replace D:=D.gr q;replace B:=B.gr q;replace C:=C.gr q;replace K:=K.gr q;replace L:=L.gr q;clear i J q
 go_wp2_with fail
 go_ret
 exact⟨rfl,G⟩
theorem lsduals_2{k:Nat}(h1:1≤k)(h2:k≤15){x y:Nat}(hx:x<M)(hy:y<M){Q:Q3}(lQ:Q.1<M∧Q.2.1<M)(oQ:OnQ k Q)(gx:oN k≤x)(w:World):Cg 5 #[.int .i64 k,.agg (nw 9 x),.agg (nw 9 y),.agg (pnQ Q)] w (.bool true):=by
 have Z:Hid (∀w,Calls prog 10 #[.int .i64 k] w (GetQ k w)):=fun w=>getq_yes k h1 h2 w;have ac:Hid (∀w,Cg 24 #[] w (.bool true)):=fun w=>awake20_any w
 have ae:dl (oN k)≤400:=by have:=oN_dl k;omega
 obtain⟨zx,aa⟩:=exl (cmpZ x (oN k))
 have af:dl x≤400:=by have:=dl_M x hx;omega
 have ag:0≤zx:=by rw[←aa];unfold cmpZ;rw[if_neg (Nat.not_lt.2 gx)];split <;> decide
 go_enter func5,ntmps5
 go_upto_region 1 with fail
 refine gen_w (fun v=>Hid (Gr w v∧Vr v (w.heap.size) (nw 9 x)∧Vr v (w.heap.size+1) (nw 9 y)∧Vr v (w.heap.size+1+1) (pnQ Q))) ⟨grA,vrA,vrA,vrA⟩ ?_;intro u0 HV
 go_upto_region 2 with (go_at_call 10;refine(Z.out _).mono ?_;rintro e WB ⟨L,rfl,S,GB⟩)
 obtain⟨e7,U⟩:=exl (WB.heap.size);simp only[U]
 refine gen_w (fun v=>Gr w v∧Vr v (w.heap.size) (nw 9 x)∧Vr v (w.heap.size+1) (nw 9 y)∧Vr v (w.heap.size+1+1) (pnQ Q)∧Vr v e7 (crA (k:Int) (nN k) L)∧∀j,Sl v (L j).1 (nN k j)) ?_ ?_
 ·subst U;obtain⟨G,V,W,X⟩:=HV.out;have g1:Gr WB (WB.alloc (.cells (crA (k:Int) (nN k) L) 30)):=(Gr.refl _).alloc _;exact⟨(G.trans GB).trans g1,(V.gr GB).gr g1,(W.gr GB).gr g1,(X.gr GB).gr g1,Vr.new _ _ _,fun j=>(S j).gr g1⟩
 clear U GB Z HV S;rintro v0 ⟨G,V,W,X,c7,S⟩;refine wp_v false [.c (.int .i64 k),.N x,.N y,.c (.agg (pnQ Q)),.c (.tuple #[.agg (pnt 0 0 false),.int .i64 2002]),.c (.tuple #[.agg (pnt 0 0 false),.int .i64 2002]),.c (.agg (pnt 0 0 false)),.c (.int .i64 2002),.a,.u,.c (.int .i64 2002)] [1,2,3,4] [⟨8,9,38,pnt 0 0 false,fun _=>pnt 0 0 false⟩] ⟨.g 25 0 V rfl,.g 25 0 W rfl,.g 38 0 X rfl,.z (dmul_bigu h1 h2 (Q:=Q) oQ (x:=x) (y:=y) hx gx),⟨⟩⟩ ⟨.k zPnt (.t rfl),⟨⟩⟩ fun ab v1 f h2 ah=>?_;simp only[fzw,Kw.a];obtain⟨⟨aj,A⟩,-⟩:(v0.heap.size≤(ab 8 0).2∧Vr v1 (ab 8 0).2 (pnt 0 0 false))∧True:=ah;clear h2;have i:=f;clear f
 go_upto_region 3 with fail
 refine wp_v true [.N x,.n (x),.N y,.n (y),.c (.agg (pnQ Q)),.pt (Q.1) (Q.2.1) Q.2.2,.a,.n (x),.n (y),.u] [0,1,2,3,4,5,7,8] [⟨6,9,54,ptA none 0 0 none 0 0 false,fun B=>ptA (B 5 0).1 (Q.1) (B 5 0).2 (B 5 1).1 (Q.2.1) (B 5 1).2 Q.2.2⟩] ⟨.g 25 0 (V.gr i) rfl,.k _ fun B Y f hh=>RtW.of_n (fm_any hx),.g 25 0 (W.gr i) rfl,.k _ fun B Y f hh=>RtW.of_n (fm_any hy),.g 38 0 (X.gr i) rfl,.k _ fun B Y f hh=>RtW.of_pt (rin_any _ _ _ lQ.1 lQ.2 _),.m 1,.m 3,⟨⟩⟩ ⟨.mk (fun _ _ h=>Value.agg.inj (h 5 rfl)) (fun _ v b H F=>by dsimp only at H ⊢;simp[go_sem,exI,H,F]) zPt ⟨fkc,fkn bPt,fkc,fkn bPt,fkc,fkp bPt,fka,fkn bPt,fkn bPt,fku,trivial⟩,⟨⟩⟩ fun d v2 f h3 ai=>?_;simp only[fzw,Kw.a];obtain⟨C,D⟩:Sl v2 (d 5 0).1 (Q.1)∧Sl v2 (d 5 1).1 (Q.2.1):=h3 5;have I:Sl v2 (d 7 0).1 (x):=h3 7;have P:Sl v2 (d 8 0).1 (y):=h3 8;obtain⟨⟨ak,J⟩,-⟩:(v1.heap.size≤(d 6 0).2∧Vr v2 (d 6 0).2 (ptA (d 5 0).1 (Q.1) (d 5 0).2 (d 5 1).1 (Q.2.1) (d 5 1).2 Q.2.2))∧True:=ai;clear h3;replace i:=i.trans f;have K:=f;clear f
 go_upto_region 4 with fail
 refine wp_wS [.T,.F,.F] [] ⟨⟩ fun ao v3 f h4=>?_;simp only[fzw];clear h4;replace i:=i.trans f;replace K:=K.trans f;have q:=f;clear f
 go_upto_region 6 with fail
 refine wp_wS [.c (.agg (crA (k:Int) (nN k) L)),.c (.agg (ptA (d 5 0).1 (Q.1) (d 5 0).2 (d 5 1).1 (Q.2.1) (d 5 1).2 Q.2.2)),.T,.F,.F] [0,1,2] ⟨.g 30 0 (c7.gr i) rfl,.g 54 0 (J.gr q) rfl,.k (fun B =>#[.agg (crA (k:Int) (nN k) L),.agg (ptA (d 5 0).1 (Q.1) (d 5 0).2 (d 5 1).1 (Q.2.1) (d 5 1).2 Q.2.2)]) fun B Y f hh=>RtW.of_c (ron_is h1 h2 lQ oQ L (fun j=>(S j).gr (i.trans f)) (C.gr (q.trans f)) (D.gr (q.trans f))),⟨⟩⟩ fun ap v4 f h6=>?_;simp only[fzw];clear h6;replace i:=i.trans f;replace K:=K.trans f;replace q:=q.trans f;clear f
 go_upto_region 8 with fail
 refine wp_wS [.c (.slice (d 7 0).1 (dl (x)) (d 7 0).2),.c (pv e7 4),.c (.slice (L 3).1 (dl (oN k)) (L 3).2),.c (.int .i64 zx),.T,.T,.u,.u,.u,.u,.u,.T,.T] [2,3,4] ⟨.o 28 4 (c7.gr i) rfl rfl,.k (fun B =>#[.slice (d 7 0).1 (dl (x)) (d 7 0).2,.slice (L 3).1 (dl (oN k)) (L 3).2]) fun B Y f hh=>RtW.of_c (cz_any (I.gr (q.trans f)) ((S 3).gr (i.trans f)) af ae aa),.s (.binOp .geq 3 (.const (.int .i64 zx)) (.const (.int .i64 0)) 3) rfl fun Y f=>by simp[go_sem,exI,ag],⟨⟩⟩ fun aq v5 f h8=>?_;simp only[fzw];clear h8;replace i:=i.trans f;replace K:=K.trans f;replace q:=q.trans f;clear f
 go_upto_region 9 with fail
 refine wp_wS [.c (.int .i64 2002),.c (.int .i64 2002),.T,.T,.c (.agg (pnt 0 0 false)),.c (.agg (pnt 0 0 false)),.T,.T,.T,.T,.T,.T] [1,4,6,9] ⟨.y (num_any _),.g 38 0 (A.gr K) rfl,.s (.binOp .eql 38 (.const (.agg (pnt 0 0 false))) (.const (.agg (pnt 0 0 false))) 38) rfl fun Y f=>by simp[go_sem,exI,eqPn,eqN_self],.z ac.out,⟨⟩⟩ fun ar v6 f h9=>?_;simp only[fzw];clear h9;replace i:=i.trans f;replace K:=K.trans f;replace q:=q.trans f;clear f;replace G:=G.trans i;replace V:=V.gr i;replace W:=W.gr i;replace X:=X.gr i;replace c7:=c7.gr i;replace S:=fun k=>(S k).gr i;replace A:=A.gr K;replace J:=J.gr q;replace C:=C.gr q;replace D:=D.gr q;replace I:=I.gr q;replace P:=P.gr q;clear i K q
 go_wp2_with fail
 go_ret
 exact⟨rfl,G⟩
theorem lsduals_3{k:Nat}(h1:1≤k)(h2:k≤15){x y:Nat}(hx:x<M)(hy:y<M){Q:Q3}(lQ:Q.1<M∧Q.2.1<M)(oQ:OnQ k Q)(lx:x<oN k)(gy:oN k≤y)(w:World):Cg 5 #[.int .i64 k,.agg (nw 9 x),.agg (nw 9 y),.agg (pnQ Q)] w (.bool true):=by
 have Z:Hid (∀w,Calls prog 10 #[.int .i64 k] w (GetQ k w)):=fun w=>getq_yes k h1 h2 w;have af:Hid (∀w,Cg 24 #[] w (.bool true)):=fun w=>awake20_any w
 have aa:dl (oN k)≤400:=by have:=oN_dl k;omega
 obtain⟨zx,ab⟩:=exl (cmpZ x (oN k))
 have ag:dl x≤400:=by have:=dl_M x hx;omega
 have ah:¬0≤zx:=by rw[←ab];unfold cmpZ;rw[if_pos lx];decide
 obtain⟨zy,ac⟩:=exl (cmpZ y (oN k))
 have ai:dl y≤400:=by have:=dl_M y hy;omega
 have aj:0≤zy:=by rw[←ac];unfold cmpZ;rw[if_neg (Nat.not_lt.2 gy)];split <;> decide
 go_enter func5,ntmps5
 go_upto_region 1 with fail
 refine gen_w (fun v=>Hid (Gr w v∧Vr v (w.heap.size) (nw 9 x)∧Vr v (w.heap.size+1) (nw 9 y)∧Vr v (w.heap.size+1+1) (pnQ Q))) ⟨grA,vrA,vrA,vrA⟩ ?_;intro u0 HV
 go_upto_region 2 with (go_at_call 10;refine(Z.out _).mono ?_;rintro e WB ⟨A,rfl,S,GB⟩)
 obtain⟨e7,V⟩:=exl (WB.heap.size);simp only[V]
 refine gen_w (fun v=>Gr w v∧Vr v (w.heap.size) (nw 9 x)∧Vr v (w.heap.size+1) (nw 9 y)∧Vr v (w.heap.size+1+1) (pnQ Q)∧Vr v e7 (crA (k:Int) (nN k) A)∧∀j,Sl v (A j).1 (nN k j)) ?_ ?_
 ·subst V;obtain⟨G,W,X,Y⟩:=HV.out;have g1:Gr WB (WB.alloc (.cells (crA (k:Int) (nN k) A) 30)):=(Gr.refl _).alloc _;exact⟨(G.trans GB).trans g1,(W.gr GB).gr g1,(X.gr GB).gr g1,(Y.gr GB).gr g1,Vr.new _ _ _,fun j=>(S j).gr g1⟩
 clear V GB Z HV S;rintro v0 ⟨G,W,X,Y,c7,S⟩;refine wp_v false [.c (.int .i64 k),.N x,.N y,.c (.agg (pnQ Q)),.c (.tuple #[.agg (pnt 0 0 false),.int .i64 2002]),.c (.tuple #[.agg (pnt 0 0 false),.int .i64 2002]),.c (.agg (pnt 0 0 false)),.c (.int .i64 2002),.a,.u,.c (.int .i64 2002)] [1,2,3,4] [⟨8,9,38,pnt 0 0 false,fun _=>pnt 0 0 false⟩] ⟨.g 25 0 W rfl,.g 25 0 X rfl,.g 38 0 Y rfl,.z (dmul_bigv h1 h2 (Q:=Q) oQ (x:=x) (y:=y) lx hy gy),⟨⟩⟩ ⟨.k zPnt (.t rfl),⟨⟩⟩ fun ae v1 f h2 ak=>?_;simp only[fzw,Kw.a];obtain⟨⟨ap,C⟩,-⟩:(v0.heap.size≤(ae 8 0).2∧Vr v1 (ae 8 0).2 (pnt 0 0 false))∧True:=ak;clear h2;have i:=f;clear f
 go_upto_region 3 with fail
 refine wp_v true [.N x,.n (x),.N y,.n (y),.c (.agg (pnQ Q)),.pt (Q.1) (Q.2.1) Q.2.2,.a,.n (x),.n (y),.u] [0,1,2,3,4,5,7,8] [⟨6,9,54,ptA none 0 0 none 0 0 false,fun B=>ptA (B 5 0).1 (Q.1) (B 5 0).2 (B 5 1).1 (Q.2.1) (B 5 1).2 Q.2.2⟩] ⟨.g 25 0 (W.gr i) rfl,.k _ fun B U f hh=>RtW.of_n (fm_any hx),.g 25 0 (X.gr i) rfl,.k _ fun B U f hh=>RtW.of_n (fm_any hy),.g 38 0 (Y.gr i) rfl,.k _ fun B U f hh=>RtW.of_pt (rin_any _ _ _ lQ.1 lQ.2 _),.m 1,.m 3,⟨⟩⟩ ⟨.mk (fun _ _ h=>Value.agg.inj (h 5 rfl)) (fun _ v b H F=>by dsimp only at H ⊢;simp[go_sem,exI,H,F]) zPt ⟨fkc,fkn bPt,fkc,fkn bPt,fkc,fkp bPt,fka,fkn bPt,fkn bPt,fku,trivial⟩,⟨⟩⟩ fun d v2 f h3 ao=>?_;simp only[fzw,Kw.a];obtain⟨D,I⟩:Sl v2 (d 5 0).1 (Q.1)∧Sl v2 (d 5 1).1 (Q.2.1):=h3 5;have J:Sl v2 (d 7 0).1 (x):=h3 7;have K:Sl v2 (d 8 0).1 (y):=h3 8;obtain⟨⟨aq,L⟩,-⟩:(v1.heap.size≤(d 6 0).2∧Vr v2 (d 6 0).2 (ptA (d 5 0).1 (Q.1) (d 5 0).2 (d 5 1).1 (Q.2.1) (d 5 1).2 Q.2.2))∧True:=ao;clear h3;replace i:=i.trans f;have P:=f;clear f
 go_upto_region 4 with fail
 refine wp_wS [.T,.F,.F] [] ⟨⟩ fun ar v3 f h4=>?_;simp only[fzw];clear h4;replace i:=i.trans f;replace P:=P.trans f;have q:=f;clear f
 go_upto_region 6 with fail
 refine wp_wS [.c (.agg (crA (k:Int) (nN k) A)),.c (.agg (ptA (d 5 0).1 (Q.1) (d 5 0).2 (d 5 1).1 (Q.2.1) (d 5 1).2 Q.2.2)),.T,.F,.F] [0,1,2] ⟨.g 30 0 (c7.gr i) rfl,.g 54 0 (L.gr q) rfl,.k (fun B =>#[.agg (crA (k:Int) (nN k) A),.agg (ptA (d 5 0).1 (Q.1) (d 5 0).2 (d 5 1).1 (Q.2.1) (d 5 1).2 Q.2.2)]) fun B U f hh=>RtW.of_c (ron_is h1 h2 lQ oQ A (fun j=>(S j).gr (i.trans f)) (D.gr (q.trans f)) (I.gr (q.trans f))),⟨⟩⟩ fun au v4 f h6=>?_;simp only[fzw];clear h6;replace i:=i.trans f;replace P:=P.trans f;replace q:=q.trans f;clear f
 go_upto_region 8 with fail
 refine wp_wS [.c (.slice (d 7 0).1 (dl (x)) (d 7 0).2),.c (pv e7 4),.c (.slice (A 3).1 (dl (oN k)) (A 3).2),.c (.int .i64 zx),.F,.F,.c (.slice (d 8 0).1 (dl (y)) (d 8 0).2),.c (pv e7 4),.c (.slice (A 3).1 (dl (oN k)) (A 3).2),.c (.int .i64 zy),.T,.T,.T] [2,3,4,8,9,10] ⟨.o 28 4 (c7.gr i) rfl rfl,.k (fun B =>#[.slice (d 7 0).1 (dl (x)) (d 7 0).2,.slice (A 3).1 (dl (oN k)) (A 3).2]) fun B U f hh=>RtW.of_c (cz_any (J.gr (q.trans f)) ((S 3).gr (i.trans f)) ag aa ab),.s (.binOp .geq 3 (.const (.int .i64 zx)) (.const (.int .i64 0)) 3) rfl fun U f=>by simp[go_sem,exI,ah],.o 28 4 (c7.gr i) rfl rfl,.k (fun B =>#[.slice (d 8 0).1 (dl (y)) (d 8 0).2,.slice (A 3).1 (dl (oN k)) (A 3).2]) fun B U f hh=>RtW.of_c (cz_any (K.gr (q.trans f)) ((S 3).gr (i.trans f)) ai aa ac),.s (.binOp .geq 3 (.const (.int .i64 zy)) (.const (.int .i64 0)) 3) rfl fun U f=>by simp[go_sem,exI,aj],⟨⟩⟩ fun av v5 f h8=>?_;simp only[fzw];clear h8;replace i:=i.trans f;replace P:=P.trans f;replace q:=q.trans f;clear f
 go_upto_region 9 with fail
 refine wp_wS [.c (.int .i64 2002),.c (.int .i64 2002),.T,.T,.c (.agg (pnt 0 0 false)),.c (.agg (pnt 0 0 false)),.T,.T,.T,.T,.T,.T] [1,4,6,9] ⟨.y (num_any _),.g 38 0 (C.gr P) rfl,.s (.binOp .eql 38 (.const (.agg (pnt 0 0 false))) (.const (.agg (pnt 0 0 false))) 38) rfl fun U f=>by simp[go_sem,exI,eqPn,eqN_self],.z af.out,⟨⟩⟩ fun aw v6 f h9=>?_;simp only[fzw];clear h9;replace i:=i.trans f;replace P:=P.trans f;replace q:=q.trans f;clear f;replace G:=G.trans i;replace W:=W.gr i;replace X:=X.gr i;replace Y:=Y.gr i;replace c7:=c7.gr i;replace S:=fun k=>(S k).gr i;replace C:=C.gr P;replace L:=L.gr q;replace D:=D.gr q;replace I:=I.gr q;replace J:=J.gr q;replace K:=K.gr q;clear i P q
 go_wp2_with fail
 go_ret
 exact⟨rfl,G⟩
theorem lsduals_4{k:Nat}(h1:1≤k)(h2:k≤15){x y:Nat}(hx:x<M)(hy:y<M){Q:Q3}(lQ:Q.1<M∧Q.2.1<M)(oQ:OnQ k Q)(lx:x<oN k)(ly:y<oN k)(w:World):Cg 5 #[.int .i64 k,.agg (nw 9 x),.agg (nw 9 y),.agg (pnQ Q)] w (.bool true):=by
 have ae:Hid (∀w,Calls prog 10 #[.int .i64 k] w (GetQ k w)):=fun w=>getq_yes k h1 h2 w;have ar:Hid (∀w,Cg 24 #[] w (.bool true)):=fun w=>awake20_any w
 have af:dl (oN k)≤400:=by have:=oN_dl k;omega
 obtain⟨zx,ag⟩:=exl (cmpZ x (oN k))
 have ah:dl x≤400:=by have:=dl_M x hx;omega
 have au:¬0≤zx:=by rw[←ag];unfold cmpZ;rw[if_pos lx];decide
 obtain⟨zy,ai⟩:=exl (cmpZ y (oN k))
 have aj:dl y≤400:=by have:=dl_M y hy;omega
 have av:¬0≤zy:=by rw[←ai];unfold cmpZ;rw[if_pos ly];decide
 obtain⟨A,hA⟩:=exl (mlQ k x (gQ k));have oA:OnQ k A:=hA▸mlQ_on h1 h2 _ (gQ_on h1 h2);obtain⟨B,hB⟩:=exl (mlQ k y Q);have oB:OnQ k B:=hB▸mlQ_on h1 h2 _ oQ;obtain⟨R,hR⟩:=exl (plQ k A B)
 have hT:twQ k Q x y=R:=by rw[twQ,hA,hB,hR]
 go_enter func5,ntmps5
 go_upto_region 1 with fail
 refine gen_w (fun v=>Hid (Gr w v∧Vr v (w.heap.size) (nw 9 x)∧Vr v (w.heap.size+1) (nw 9 y)∧Vr v (w.heap.size+1+1) (pnQ Q))) ⟨grA,vrA,vrA,vrA⟩ ?_;intro u0 HV
 go_upto_region 2 with (go_at_call 10;refine(ae.out _).mono ?_;rintro e WB ⟨D,rfl,HQ,GB⟩)
 obtain⟨e7,ac⟩:=exl (WB.heap.size);simp only[ac]
 refine gen_w (fun v=>Gr w v∧Vr v (w.heap.size) (nw 9 x)∧Vr v (w.heap.size+1) (nw 9 y)∧Vr v (w.heap.size+1+1) (pnQ Q)∧Vr v e7 (crA (k:Int) (nN k) D)∧∀j,Sl v (D j).1 (nN k j)) ?_ ?_
 ·subst ac;obtain⟨G,c0,c1,c2⟩:=HV.out;have g1:Gr WB (WB.alloc (.cells (crA (k:Int) (nN k) D) 30)):=(Gr.refl _).alloc _;exact⟨(G.trans GB).trans g1,(c0.gr GB).gr g1,(c1.gr GB).gr g1,(c2.gr GB).gr g1,Vr.new _ _ _,fun j=>(HQ j).gr g1⟩
 clear ac GB ae HV HQ;rintro v0 ⟨G,c0,c1,c2,c7,HQ⟩;refine wp_v false [.c (.int .i64 k),.N x,.N y,.c (.agg (pnQ Q)),.E (.agg (pnQ R)),.E (.agg (pnQ R)),.c (.agg (pnQ R)),.O,.a,.u,.O] [1,2,3,4] [⟨8,9,38,pnt 0 0 false,fun _=>pnQ R⟩] ⟨.g 25 0 c0 rfl,.g 25 0 c1 rfl,.g 38 0 c2 rfl,.z (dmul_yes h1 h2 (Q:=Q) oQ (x:=x) (y:=y) lx ly (R:=R) hT),⟨⟩⟩ ⟨.k zPnt (.t rfl),⟨⟩⟩ fun ak v1 f h2 aw=>?_;simp only[fzw,Kw.a];obtain⟨⟨az,aa⟩,-⟩:(v0.heap.size≤(ak 8 0).2∧Vr v1 (ak 8 0).2 (pnQ R))∧True:=aw;clear h2;have C:=f;clear f
 go_upto_region 3 with fail
 refine wp_v true [.N x,.n (x),.N y,.n (y),.c (.agg (pnQ Q)),.pt (Q.1) (Q.2.1) Q.2.2,.a,.n (x),.n (y),.u] [0,1,2,3,4,5,7,8] [⟨6,9,54,ptA none 0 0 none 0 0 false,fun q=>ptA (q 5 0).1 (Q.1) (q 5 0).2 (q 5 1).1 (Q.2.1) (q 5 1).2 Q.2.2⟩] ⟨.g 25 0 (c0.gr C) rfl,.k _ fun q Y f P=>RtW.of_n (fm_any hx),.g 25 0 (c1.gr C) rfl,.k _ fun q Y f P=>RtW.of_n (fm_any hy),.g 38 0 (c2.gr C) rfl,.k _ fun q Y f P=>RtW.of_pt (rin_any _ _ _ lQ.1 lQ.2 _),.m 1,.m 3,⟨⟩⟩ ⟨.mk (fun _ _ h=>Value.agg.inj (h 5 rfl)) (fun _ v b H F=>by dsimp only at H ⊢;simp[go_sem,exI,H,F]) zPt ⟨fkc,fkn bPt,fkc,fkn bPt,fkc,fkp bPt,fka,fkn bPt,fkn bPt,fku,trivial⟩,⟨⟩⟩ fun d v2 f h3 ax=>?_;simp only[fzw,Kw.a];obtain⟨S,U⟩:Sl v2 (d 5 0).1 (Q.1)∧Sl v2 (d 5 1).1 (Q.2.1):=h3 5;have V:Sl v2 (d 7 0).1 (x):=h3 7;have W:Sl v2 (d 8 0).1 (y):=h3 8;obtain⟨⟨aA,X⟩,-⟩:(v1.heap.size≤(d 6 0).2∧Vr v2 (d 6 0).2 (ptA (d 5 0).1 (Q.1) (d 5 0).2 (d 5 1).1 (Q.2.1) (d 5 1).2 Q.2.2))∧True:=ax;clear h3;replace C:=C.trans f;have Z:=f;clear f
 go_upto_region 4 with fail
 refine wp_wS [.T,.F,.F] [] ⟨⟩ fun aC v3 f h4=>?_;simp only[fzw];clear h4;replace C:=C.trans f;replace Z:=Z.trans f;have I:=f;clear f
 go_upto_region 6 with fail
 refine wp_wS [.c (.agg (crA (k:Int) (nN k) D)),.c (.agg (ptA (d 5 0).1 (Q.1) (d 5 0).2 (d 5 1).1 (Q.2.1) (d 5 1).2 Q.2.2)),.T,.F,.F] [0,1,2] ⟨.g 30 0 (c7.gr C) rfl,.g 54 0 (X.gr I) rfl,.k (fun q =>#[.agg (crA (k:Int) (nN k) D),.agg (ptA (d 5 0).1 (Q.1) (d 5 0).2 (d 5 1).1 (Q.2.1) (d 5 1).2 Q.2.2)]) fun q Y f P=>RtW.of_c (ron_is h1 h2 lQ oQ D (fun j=>(HQ j).gr (C.trans f)) (S.gr (I.trans f)) (U.gr (I.trans f))),⟨⟩⟩ fun aD v4 f h6=>?_;simp only[fzw];clear h6;replace C:=C.trans f;replace Z:=Z.trans f;replace I:=I.trans f;clear f
 go_upto_region 8 with fail
 refine wp_wS [.c (.slice (d 7 0).1 (dl (x)) (d 7 0).2),.c (pv e7 4),.c (.slice (D 3).1 (dl (oN k)) (D 3).2),.c (.int .i64 zx),.F,.F,.c (.slice (d 8 0).1 (dl (y)) (d 8 0).2),.c (pv e7 4),.c (.slice (D 3).1 (dl (oN k)) (D 3).2),.c (.int .i64 zy),.F,.F,.F] [2,3,4,8,9,10] ⟨.o 28 4 (c7.gr C) rfl rfl,.k (fun q =>#[.slice (d 7 0).1 (dl (x)) (d 7 0).2,.slice (D 3).1 (dl (oN k)) (D 3).2]) fun q Y f P=>RtW.of_c (cz_any (V.gr (I.trans f)) ((HQ 3).gr (C.trans f)) ah af ag),.s (.binOp .geq 3 (.const (.int .i64 zx)) (.const (.int .i64 0)) 3) rfl fun Y f=>by simp[go_sem,exI,au],.o 28 4 (c7.gr C) rfl rfl,.k (fun q =>#[.slice (d 8 0).1 (dl (y)) (d 8 0).2,.slice (D 3).1 (dl (oN k)) (D 3).2]) fun q Y f P=>RtW.of_c (cz_any (W.gr (I.trans f)) ((HQ 3).gr (C.trans f)) aj af ai),.s (.binOp .geq 3 (.const (.int .i64 zy)) (.const (.int .i64 0)) 3) rfl fun Y f=>by simp[go_sem,exI,av],⟨⟩⟩ fun aE v5 f h8=>?_;simp only[fzw];clear h8;replace C:=C.trans f;replace Z:=Z.trans f;replace I:=I.trans f;clear f
 go_upto_region 10 with fail
 refine wp_v true [.c (.agg (crA (k:Int) (nN k) D)),.c (.agg (crA (k:Int) (nN k) D)),.c (.slice (d 7 0).1 (dl (x)) (d 7 0).2),.c (.agg (crA (k:Int) (nN k) D)),.pt (xN k) (yN k) false,.pt (A.1) (A.2.1) A.2.2,.c (.agg (crA (k:Int) (nN k) D)),.c (.slice (d 8 0).1 (dl (y)) (d 8 0).2),.c (.agg (ptA (d 5 0).1 (Q.1) (d 5 0).2 (d 5 1).1 (Q.2.1) (d 5 1).2 Q.2.2)),.pt (B.1) (B.2.1) B.2.2,.pt (R.1) (R.2.1) R.2.2,.a,.u] [0,1,3,4,5,6,8,9,10] [⟨11,12,54,ptA none 0 0 none 0 0 false,fun q=>ptA (q 10 0).1 (R.1) (q 10 0).2 (q 10 1).1 (R.2.1) (q 10 1).2 R.2.2⟩] ⟨.g 30 0 (c7.gr C) rfl,.g 30 0 (c7.gr C) rfl,.g 30 0 (c7.gr C) rfl,.k _ fun q Y f P=>RtW.of_pt (rg_any D _ (fun j=>(HQ j).gr (C.trans f))),.k (fun q =>#[.agg (crA (k:Int) (nN k) D),.slice (d 7 0).1 (dl (x)) (d 7 0).2,.agg (ptA (q 4 0).1 (xN k) (q 4 0).2 (q 4 1).1 (yN k) (q 4 1).2 false)]) fun q Y f P=>RtW.of_pt (hA▸rtimesQ k h1 h2 D (gQ_on h1 h2) ah (fun j=>(HQ j).gr (C.trans f)) (V.gr (I.trans f)) (P 4 rfl).1 (P 4 rfl).2),.g 30 0 (c7.gr C) rfl,.g 54 0 (X.gr I) rfl,.k (fun q =>#[.agg (crA (k:Int) (nN k) D),.slice (d 8 0).1 (dl (y)) (d 8 0).2,.agg (ptA (d 5 0).1 (Q.1) (d 5 0).2 (d 5 1).1 (Q.2.1) (d 5 1).2 Q.2.2)]) fun q Y f P=>RtW.of_pt (hB▸rtimesQ k h1 h2 D oQ aj (fun j=>(HQ j).gr (C.trans f)) (W.gr (I.trans f)) (S.gr (I.trans f)) (U.gr (I.trans f))),.k (fun q =>#[.agg (crA (k:Int) (nN k) D),.agg (ptA (q 5 0).1 (A.1) (q 5 0).2 (q 5 1).1 (A.2.1) (q 5 1).2 A.2.2),.agg (ptA (q 9 0).1 (B.1) (q 9 0).2 (q 9 1).1 (B.2.1) (q 9 1).2 B.2.2)]) fun q Y f P=>RtW.of_pt (hR▸rplusQ k h1 h2 D oA oB (fun j=>(HQ j).gr (C.trans f)) (P 5 rfl).1 (P 5 rfl).2 (P 9 rfl).1 (P 9 rfl).2),⟨⟩⟩ ⟨.mk (fun _ _ h=>Value.agg.inj (h 10 rfl)) (fun _ v b H F=>by dsimp only at H ⊢;simp[go_sem,exI,H,F]) zPt ⟨fkc,fkc,fkc,fkc,fkp bPt,fkp bPt,fkc,fkc,fkc,fkp bPt,fkp bPt,fka,fku,trivial⟩,⟨⟩⟩ fun i v6 f ao ap=>?_;simp only[fzw,Kw.a];obtain⟨J,K⟩:Sl v6 (i 10 0).1 (R.1)∧Sl v6 (i 10 1).1 (R.2.1):=ao 10;obtain⟨⟨aq,L⟩,-⟩:(v5.heap.size≤(i 11 0).2∧Vr v6 (i 11 0).2 (ptA (i 10 0).1 (R.1) (i 10 0).2 (i 10 1).1 (R.2.1) (i 10 1).2 R.2.2))∧True:=ap;clear ao;replace C:=C.trans f;replace Z:=Z.trans f;replace I:=I.trans f;clear f
 go_upto_region 11 with fail
 refine wp_w [.O,.O,.T,.T,.c (.agg (pnQ R)),.c (.agg (ptA (i 10 0).1 (R.1) (i 10 0).2 (i 10 1).1 (R.2.1) (i 10 1).2 R.2.2)),.c (.agg (pnQ R)),.T,.T,.T,.T,.T,.T] [1,4,5,6,7,10] ⟨.y (num_any _),.g 38 0 (aa.gr Z) rfl,.g 54 0 L rfl,.k (fun q =>#[.agg (ptA (i 10 0).1 (R.1) (i 10 0).2 (i 10 1).1 (R.2.1) (i 10 1).2 R.2.2)]) fun q Y f P=>RtW.of_c (Rt.c (rout_any _ _ _ _ _ _ _ _ (J.gr f) (K.gr f))),.s (.binOp .eql 38 (.const (.agg (pnQ R))) (.const (.agg (pnQ R))) 38) rfl fun Y f=>by simp[go_sem,exI,eqPn,eqN_self],.z ar.out,⟨⟩⟩ fun aB v7 f ay=>?_;simp only[fzw];clear ay;replace C:=C.trans f;replace Z:=Z.trans f;replace I:=I.trans f;have ab:=f;clear f;replace G:=G.trans C;replace c0:=c0.gr C;replace c1:=c1.gr C;replace c2:=c2.gr C;replace c7:=c7.gr C;replace HQ:=fun k=>(HQ k).gr C;replace aa:=aa.gr Z;replace X:=X.gr I;replace S:=S.gr I;replace U:=U.gr I;replace V:=V.gr I;replace W:=W.gr I;replace L:=L.gr ab;replace J:=J.gr ab;replace K:=K.gr ab;clear ab C Z I
 go_wp2_with fail
 go_ret
 exact⟨rfl,G⟩
theorem lsduals_any(id:Int){x y:Nat}(hx:x<M)(hy:y<M){Q:Q3}(lQ:Q.1<M∧Q.2.1<M)(w:World):Cg 5 #[.int .i64 id,.agg (nw 9 x),.agg (nw 9 y),.agg (pnQ Q)] w (.bool true):=by
 by_cases h:1≤id∧id≤15
 ·obtain⟨k,rfl⟩:∃k:Nat,id=(k:Int):=⟨id.toNat,by omega⟩
  have d:1≤k:=by omega
  have f:k≤15:=by omega
  by_cases oQ:onB k Q.1 Q.2.1 Q.2.2=true
  ·by_cases lx:x<oN k
   ·by_cases ly:y<oN k
    ·exact lsduals_4 d f hx hy lQ oQ lx ly w
    ·exact lsduals_3 d f hx hy lQ oQ lx (Nat.le_of_not_lt ly) w
   ·exact lsduals_2 d f hx hy lQ oQ (Nat.le_of_not_lt lx) w
  ·exact lsduals_1 d f hx hy lQ (Bool.eq_false_iff.2 oQ) w
 ·exact lsduals_0 id (by omega) hx hy lQ w
end
end
end Go.Proofs.YtffhepbppiocbadGreat