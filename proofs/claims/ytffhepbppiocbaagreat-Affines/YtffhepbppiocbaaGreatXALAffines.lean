import Derived.Test.YtffhepbppiocbaaGreatXAAU
namespace Go.Proofs.YtffhepbppiocbaaGreat
open Go.RowKit Go.Proofs.Tryz
set_option maxRecDepth 100000
set_option maxHeartbeats 8000000
section
attribute [local go_sem ↓] uz1
attribute [local go_sem] uz2
section
attribute [local go_sem] uz7
attribute [local go_sem ↓] uz12 Go.wp_at_zero Go.wp_at_succ
attribute [local go_sem] uz13
theorem laffines_0(id:Int)(h:id<1∨15<id)(P Q:Q3)(w:World):Cg 3 #[.int .i64 id,.agg (pnQ P),.agg (pnQ Q)] w (.bool true):=by
 have x:Hid (∀w,Cg 9 #[.int .i64 id] w (.tuple #[.agg #[.int .i64 0,.slice none 0 0,.slice none 0 0,.slice none 0 0,.slice none 0 0,.slice none 0 0,.slice none 0 0],.bool false])):=fun w=>get_no id h w;have D:Hid (∀w,Cg 13 #[] w (.bool true)):=fun w=>awake14_any w
 go_enter func3,ntmps3
 go_upto_region 1 with fail
 refine gen_w (fun v=>Hid (Gr w v∧Vr v (w.heap.size) (pnQ P)∧Vr v (w.heap.size+1) (pnQ Q))) ⟨grA,vrA,vrA⟩ ?_;intro u0 L
 go_upto_region 2 with (go_at_call 9;refine(x.out _).mono ?_;rintro e H ⟨rfl,C⟩)
 obtain⟨e7,q⟩:=exl (H.heap.size);simp only[q]
 refine gen_w (fun v=>Gr w v∧Vr v (w.heap.size) (pnQ P)∧Vr v (w.heap.size+1) (pnQ Q)) ?_ ?_
 ·subst q;obtain⟨G,j,l⟩:=L.out;have I:Gr H (H.alloc (.cells (#[.int .i64 0,.slice none 0 0,.slice none 0 0,.slice none 0 0,.slice none 0 0,.slice none 0 0,.slice none 0 0]) 31)):=(Gr.refl _).alloc _;exact⟨(G.trans C).trans I,(j.gr C).gr I,(l.gr C).gr I⟩
 clear q C x L;rintro W ⟨G,j,l⟩;refine wp_v false [.c (.int .i64 id),.c (.agg (pnQ P)),.c (.agg (pnQ Q)),.c (.tuple #[.agg (pnt 0 0 false),.int .i64 1400]),.c (.tuple #[.agg (pnt 0 0 false),.int .i64 1400]),.c (.agg (pnt 0 0 false)),.c (.int .i64 1400),.a,.u,.c (.int .i64 1400)] [1,2,3] [⟨7,8,27,pnt 0 0 false,fun _=>pnt 0 0 false⟩] ⟨.g 27 0 j rfl,.g 27 0 l rfl,.z (add_no id h P Q),⟨⟩⟩ ⟨.k zPnt (.t rfl),⟨⟩⟩ fun A S d X J=>?_;simp only[fzw,Kw.a];obtain⟨⟨U,f⟩,-⟩:(W.heap.size≤(A 7 0).2∧Vr S (A 7 0).2 (pnt 0 0 false))∧True:=J;clear X;replace G:=G.trans d;replace j:=j.gr d;replace l:=l.gr d;clear d
 go_upto_region 3 with fail
 refine wp_v false [.c (.int .i64 id),.c (.agg (pnQ P)),.c (.tuple #[.agg (pnt 0 0 false),.int .i64 1400]),.c (.tuple #[.agg (pnt 0 0 false),.int .i64 1400]),.c (.agg (pnt 0 0 false)),.c (.int .i64 1400),.a,.u,.c (.int .i64 1400)] [1,2] [⟨6,7,27,pnt 0 0 false,fun _=>pnt 0 0 false⟩] ⟨.g 27 0 j rfl,.z (neg_no id h P),⟨⟩⟩ ⟨.k zPnt (.t rfl),⟨⟩⟩ fun B Y d Z K=>?_;simp only[fzw,Kw.a];obtain⟨⟨V,i⟩,-⟩:(S.heap.size≤(B 6 0).2∧Vr Y (B 6 0).2 (pnt 0 0 false))∧True:=K;clear Z;replace G:=G.trans d;replace j:=j.gr d;replace l:=l.gr d;replace f:=f.gr d;clear d
 go_upto_region 4 with fail
 refine wp_wS [.F,.T] [] ⟨⟩ fun aa v3 d h4=>?_;simp only[fzw];clear h4;replace G:=G.trans d;replace j:=j.gr d;replace l:=l.gr d;replace f:=f.gr d;replace i:=i.gr d;clear d
 go_upto_region 5 with fail
 refine wp_wS [.c (.int .i64 1400),.c (.int .i64 1400),.T,.T,.c (.int .i64 1400),.c (.int .i64 1400),.T,.T,.T,.c (.agg (pnt 0 0 false)),.c (.agg (pnt 0 0 false)),.T,.T,.T,.T,.T,.T] [1,5,9,11,14] ⟨.y (num_any _),.y (num_any _),.g 27 0 f rfl,.s (.binOp .eql 27 (.const (.agg (pnt 0 0 false))) (.const (.agg (pnt 0 0 false))) 27) rfl fun vv d=>by simp[go_sem,exI,eqPn,eqN_self],.z D.out,⟨⟩⟩ fun ab v4 d h5=>?_;simp only[fzw];clear h5;replace G:=G.trans d;replace j:=j.gr d;replace l:=l.gr d;replace f:=f.gr d;replace i:=i.gr d;clear d
 go_wp2_with fail
 go_ret
 exact⟨rfl,G⟩
theorem laffines_1{k:Nat}(h1:1≤k)(h2:k≤15){P Q:Q3}(lP:P.1<M∧P.2.1<M)(lQ:Q.1<M∧Q.2.1<M)(oP:onB k P.1 P.2.1 P.2.2=false)(w:World):Cg 3 #[.int .i64 k,.agg (pnQ P),.agg (pnQ Q)] w (.bool true):=by
 have X:Hid (∀w,Calls prog 9 #[.int .i64 k] w (GetQ k w)):=fun w=>getq_yes k h1 h2 w;have aa:Hid (∀w,Cg 13 #[] w (.bool true)):=fun w=>awake14_any w
 go_enter func3,ntmps3
 go_upto_region 1 with fail
 refine gen_w (fun v=>Hid (Gr w v∧Vr v (w.heap.size) (pnQ P)∧Vr v (w.heap.size+1) (pnQ Q))) ⟨grA,vrA,vrA⟩ ?_;intro u0 HV
 go_upto_region 2 with (go_at_call 9;refine(X.out _).mono ?_;rintro e WB ⟨V,rfl,J,GB⟩)
 obtain⟨e7,U⟩:=exl (WB.heap.size);simp only[U]
 refine gen_w (fun v=>Gr w v∧Vr v (w.heap.size) (pnQ P)∧Vr v (w.heap.size+1) (pnQ Q)∧Vr v e7 (crA (k:Int) (nN k) V)∧∀j,Sl v (V j).1 (nN k j)) ?_ ?_
 ·subst U;obtain⟨G,I,K⟩:=HV.out;have g1:Gr WB (WB.alloc (.cells (crA (k:Int) (nN k) V) 31)):=(Gr.refl _).alloc _;exact⟨(G.trans GB).trans g1,(I.gr GB).gr g1,(K.gr GB).gr g1,Vr.new _ _ _,fun j=>(J j).gr g1⟩
 clear U GB X HV J;rintro v0 ⟨G,I,K,L,J⟩;refine wp_v false [.c (.int .i64 k),.c (.agg (pnQ P)),.c (.agg (pnQ Q)),.c (.tuple #[.agg (pnt 0 0 false),.int .i64 1401]),.c (.tuple #[.agg (pnt 0 0 false),.int .i64 1401]),.c (.agg (pnt 0 0 false)),.c (.int .i64 1401),.a,.u,.c (.int .i64 1401)] [1,2,3] [⟨7,8,27,pnt 0 0 false,fun _=>pnt 0 0 false⟩] ⟨.g 27 0 I rfl,.g 27 0 K rfl,.z (add_off h1 h2 lP lQ (.inl oP)),⟨⟩⟩ ⟨.k zPnt (.t rfl),⟨⟩⟩ fun Y v1 d h2 ab=>?_;simp only[fzw,Kw.a];obtain⟨⟨af,i⟩,-⟩:(v0.heap.size≤(Y 7 0).2∧Vr v1 (Y 7 0).2 (pnt 0 0 false))∧True:=ab;clear h2;replace G:=G.trans d;replace I:=I.gr d;replace K:=K.gr d;replace L:=L.gr d;replace J:=fun k=>(J k).gr d;clear d
 go_upto_region 3 with fail
 refine wp_v false [.c (.int .i64 k),.c (.agg (pnQ P)),.c (.tuple #[.agg (pnt 0 0 false),.int .i64 1401]),.c (.tuple #[.agg (pnt 0 0 false),.int .i64 1401]),.c (.agg (pnt 0 0 false)),.c (.int .i64 1401),.a,.u,.c (.int .i64 1401)] [1,2] [⟨6,7,27,pnt 0 0 false,fun _=>pnt 0 0 false⟩] ⟨.g 27 0 I rfl,.z (neg_off h1 h2 lP oP),⟨⟩⟩ ⟨.k zPnt (.t rfl),⟨⟩⟩ fun Z v2 d h3 ac=>?_;simp only[fzw,Kw.a];obtain⟨⟨ag,l⟩,-⟩:(v1.heap.size≤(Z 6 0).2∧Vr v2 (Z 6 0).2 (pnt 0 0 false))∧True:=ac;clear h3;replace G:=G.trans d;replace I:=I.gr d;replace K:=K.gr d;replace L:=L.gr d;replace i:=i.gr d;replace J:=fun k=>(J k).gr d;clear d
 go_upto_region 4 with fail
 refine wp_wS [.T,.F] [] ⟨⟩ fun aj v3 d h4=>?_;simp only[fzw];clear h4;replace G:=G.trans d;replace I:=I.gr d;replace K:=K.gr d;replace L:=L.gr d;replace i:=i.gr d;replace l:=l.gr d;replace J:=fun k=>(J k).gr d;clear d
 go_upto_region 6 with fail
 refine wp_v true [.c (.agg (pnQ P)),.pt (P.1) (P.2.1) P.2.2,.c (.agg (pnQ Q)),.pt (Q.1) (Q.2.1) Q.2.2,.a,.a,.u,.u] [0,1,2,3] [⟨4,6,41,ptA none 0 0 none 0 0 false,fun S=>ptA (S 1 0).1 (P.1) (S 1 0).2 (S 1 1).1 (P.2.1) (S 1 1).2 P.2.2⟩,⟨5,7,41,ptA none 0 0 none 0 0 false,fun S=>ptA (S 3 0).1 (Q.1) (S 3 0).2 (S 3 1).1 (Q.2.1) (S 3 1).2 Q.2.2⟩] ⟨.g 27 0 I rfl,.k _ fun S vv d hh=>RtW.of_pt (rin_any _ _ _ lP.1 lP.2 _),.g 27 0 K rfl,.k _ fun S vv d hh=>RtW.of_pt (rin_any _ _ _ lQ.1 lQ.2 _),⟨⟩⟩ ⟨.mk (fun _ _ h=>Value.agg.inj (h 1 rfl)) (fun _ v b H F=>by dsimp only at H ⊢;simp[go_sem,exI,H,F]) zPt ⟨fkc,fkp bPt,fkc,fkp bPt,fka,fka,fku,fku,trivial⟩,.mk (fun _ _ h=>Value.agg.inj (h 3 rfl)) (fun _ v b H F=>by dsimp only at H ⊢;simp[go_sem,exI,H,F]) zPt ⟨fkc,fkp bPt,fkc,fkp bPt,fka,fka,fku,fku,trivial⟩,⟨⟩⟩ fun f W d h6 ae=>?_;simp only[fzw,Kw.a];obtain⟨q,x⟩:Sl W (f 1 0).1 (P.1)∧Sl W (f 1 1).1 (P.2.1):=h6 1;obtain⟨B,C⟩:Sl W (f 3 0).1 (Q.1)∧Sl W (f 3 1).1 (Q.2.1):=h6 3;obtain⟨⟨ah,A⟩,⟨ai,D⟩,-⟩:(v3.heap.size≤(f 4 0).2∧Vr W (f 4 0).2 (ptA (f 1 0).1 (P.1) (f 1 0).2 (f 1 1).1 (P.2.1) (f 1 1).2 P.2.2))∧(v3.heap.size≤(f 5 0).2∧Vr W (f 5 0).2 (ptA (f 3 0).1 (Q.1) (f 3 0).2 (f 3 1).1 (Q.2.1) (f 3 1).2 Q.2.2))∧True:=ae;clear h6;replace G:=G.trans d;replace I:=I.gr d;replace K:=K.gr d;replace L:=L.gr d;replace i:=i.gr d;replace l:=l.gr d;replace J:=fun k=>(J k).gr d;clear d
 go_upto_region 7 with fail
 refine wp_wS [.c (.agg (crA (k:Int) (nN k) V)),.c (.agg (ptA (f 1 0).1 (P.1) (f 1 0).2 (f 1 1).1 (P.2.1) (f 1 1).2 P.2.2)),.F,.F] [0,1,2] ⟨.g 31 0 L rfl,.g 41 0 A rfl,.k (fun S =>#[.agg (crA (k:Int) (nN k) V),.agg (ptA (f 1 0).1 (P.1) (f 1 0).2 (f 1 1).1 (P.2.1) (f 1 1).2 P.2.2)]) fun S vv d hh=>RtW.of_c (ron_is h1 h2 lP oP V (fun j=>(J j).gr d) (q.gr d) (x.gr d)),⟨⟩⟩ fun ak v5 d h7=>?_;simp only[fzw];clear h7;replace G:=G.trans d;replace I:=I.gr d;replace K:=K.gr d;replace L:=L.gr d;replace i:=i.gr d;replace l:=l.gr d;replace A:=A.gr d;replace D:=D.gr d;replace J:=fun k=>(J k).gr d;replace q:=q.gr d;replace x:=x.gr d;replace B:=B.gr d;replace C:=C.gr d;clear d
 go_upto_region 8 with fail
 refine wp_wS [.F,.T] [] ⟨⟩ fun ao v6 d h8=>?_;simp only[fzw];clear h8;replace G:=G.trans d;replace I:=I.gr d;replace K:=K.gr d;replace L:=L.gr d;replace i:=i.gr d;replace l:=l.gr d;replace A:=A.gr d;replace D:=D.gr d;replace J:=fun k=>(J k).gr d;replace q:=q.gr d;replace x:=x.gr d;replace B:=B.gr d;replace C:=C.gr d;clear d
 go_upto_region 9 with fail
 refine wp_wS [.c (.int .i64 1401),.c (.int .i64 1401),.T,.T,.c (.int .i64 1401),.c (.int .i64 1401),.T,.T,.T,.c (.agg (pnt 0 0 false)),.c (.agg (pnt 0 0 false)),.T,.T,.T,.c (.agg (pnt 0 0 false)),.c (.agg (pnt 0 0 false)),.T,.T,.T,.T,.T,.T] [1,5,9,11,14,16,19] ⟨.y (num_any _),.y (num_any _),.g 27 0 i rfl,.s (.binOp .eql 27 (.const (.agg (pnt 0 0 false))) (.const (.agg (pnt 0 0 false))) 27) rfl fun vv d=>by simp[go_sem,exI,eqPn,eqN_self],.g 27 0 l rfl,.s (.binOp .eql 27 (.const (.agg (pnt 0 0 false))) (.const (.agg (pnt 0 0 false))) 27) rfl fun vv d=>by simp[go_sem,exI,eqPn,eqN_self],.z aa.out,⟨⟩⟩ fun ap v7 d h9=>?_;simp only[fzw];clear h9;replace G:=G.trans d;replace I:=I.gr d;replace K:=K.gr d;replace L:=L.gr d;replace i:=i.gr d;replace l:=l.gr d;replace A:=A.gr d;replace D:=D.gr d;replace J:=fun k=>(J k).gr d;replace q:=q.gr d;replace x:=x.gr d;replace B:=B.gr d;replace C:=C.gr d;clear d
 go_wp2_with fail
 go_ret
 exact⟨rfl,G⟩
theorem laffines_2{k:Nat}(h1:1≤k)(h2:k≤15){P Q:Q3}(lP:P.1<M∧P.2.1<M)(lQ:Q.1<M∧Q.2.1<M)(oP:onB k P.1 P.2.1 P.2.2=true)(oQ:onB k Q.1 Q.2.1 Q.2.2=false)(w:World):Cg 3 #[.int .i64 k,.agg (pnQ P),.agg (pnQ Q)] w (.bool true):=by
 have Z:Hid (∀w,Calls prog 9 #[.int .i64 k] w (GetQ k w)):=fun w=>getq_yes k h1 h2 w;have ac:Hid (∀w,Cg 13 #[] w (.bool true)):=fun w=>awake14_any w;obtain⟨N,hN⟩:=exl (ngQ k P)
 go_enter func3,ntmps3
 go_upto_region 1 with fail
 refine gen_w (fun v=>Hid (Gr w v∧Vr v (w.heap.size) (pnQ P)∧Vr v (w.heap.size+1) (pnQ Q))) ⟨grA,vrA,vrA⟩ ?_;intro u0 HV
 go_upto_region 2 with (go_at_call 9;refine(Z.out _).mono ?_;rintro e WB ⟨U,rfl,I,GB⟩)
 obtain⟨e7,V⟩:=exl (WB.heap.size);simp only[V]
 refine gen_w (fun v=>Gr w v∧Vr v (w.heap.size) (pnQ P)∧Vr v (w.heap.size+1) (pnQ Q)∧Vr v e7 (crA (k:Int) (nN k) U)∧∀j,Sl v (U j).1 (nN k j)) ?_ ?_
 ·subst V;obtain⟨G,J,L⟩:=HV.out;have g1:Gr WB (WB.alloc (.cells (crA (k:Int) (nN k) U) 31)):=(Gr.refl _).alloc _;exact⟨(G.trans GB).trans g1,(J.gr GB).gr g1,(L.gr GB).gr g1,Vr.new _ _ _,fun j=>(I j).gr g1⟩
 clear V GB Z HV I;rintro v0 ⟨G,J,L,S,I⟩;refine wp_v false [.c (.int .i64 k),.c (.agg (pnQ P)),.c (.agg (pnQ Q)),.c (.tuple #[.agg (pnt 0 0 false),.int .i64 1401]),.c (.tuple #[.agg (pnt 0 0 false),.int .i64 1401]),.c (.agg (pnt 0 0 false)),.c (.int .i64 1401),.a,.u,.c (.int .i64 1401)] [1,2,3] [⟨7,8,27,pnt 0 0 false,fun _=>pnt 0 0 false⟩] ⟨.g 27 0 J rfl,.g 27 0 L rfl,.z (add_off h1 h2 lP lQ (.inr oQ)),⟨⟩⟩ ⟨.k zPnt (.t rfl),⟨⟩⟩ fun aa v1 d h2 ae=>?_;simp only[fzw,Kw.a];obtain⟨⟨ak,i⟩,-⟩:(v0.heap.size≤(aa 7 0).2∧Vr v1 (aa 7 0).2 (pnt 0 0 false))∧True:=ae;clear h2;replace G:=G.trans d;replace J:=J.gr d;replace L:=L.gr d;replace S:=S.gr d;replace I:=fun k=>(I k).gr d;clear d
 go_upto_region 3 with fail
 refine wp_v false [.c (.int .i64 k),.c (.agg (pnQ P)),.E (.agg (pnQ N)),.E (.agg (pnQ N)),.c (.agg (pnQ N)),.O,.a,.u,.O] [1,2] [⟨6,7,27,pnt 0 0 false,fun _=>pnQ N⟩] ⟨.g 27 0 J rfl,.z (negQ h1 h2 oP hN),⟨⟩⟩ ⟨.k zPnt (.t rfl),⟨⟩⟩ fun ab v2 d h3 af=>?_;simp only[fzw,Kw.a];obtain⟨⟨ao,l⟩,-⟩:(v1.heap.size≤(ab 6 0).2∧Vr v2 (ab 6 0).2 (pnQ N))∧True:=af;clear h3;replace G:=G.trans d;replace J:=J.gr d;replace L:=L.gr d;replace S:=S.gr d;replace i:=i.gr d;replace I:=fun k=>(I k).gr d;clear d
 go_upto_region 4 with fail
 refine wp_wS [.T,.F] [] ⟨⟩ fun aw v3 d h4=>?_;simp only[fzw];clear h4;replace G:=G.trans d;replace J:=J.gr d;replace L:=L.gr d;replace S:=S.gr d;replace i:=i.gr d;replace l:=l.gr d;replace I:=fun k=>(I k).gr d;clear d
 go_upto_region 6 with fail
 refine wp_v true [.c (.agg (pnQ P)),.pt (P.1) (P.2.1) P.2.2,.c (.agg (pnQ Q)),.pt (Q.1) (Q.2.1) Q.2.2,.a,.a,.u,.u] [0,1,2,3] [⟨4,6,41,ptA none 0 0 none 0 0 false,fun K=>ptA (K 1 0).1 (P.1) (K 1 0).2 (K 1 1).1 (P.2.1) (K 1 1).2 P.2.2⟩,⟨5,7,41,ptA none 0 0 none 0 0 false,fun K=>ptA (K 3 0).1 (Q.1) (K 3 0).2 (K 3 1).1 (Q.2.1) (K 3 1).2 Q.2.2⟩] ⟨.g 27 0 J rfl,.k _ fun K W d X=>RtW.of_pt (rin_any _ _ _ lP.1 lP.2 _),.g 27 0 L rfl,.k _ fun K W d X=>RtW.of_pt (rin_any _ _ _ lQ.1 lQ.2 _),⟨⟩⟩ ⟨.mk (fun _ _ h=>Value.agg.inj (h 1 rfl)) (fun _ v b H F=>by dsimp only at H ⊢;simp[go_sem,exI,H,F]) zPt ⟨fkc,fkp bPt,fkc,fkp bPt,fka,fka,fku,fku,trivial⟩,.mk (fun _ _ h=>Value.agg.inj (h 3 rfl)) (fun _ v b H F=>by dsimp only at H ⊢;simp[go_sem,exI,H,F]) zPt ⟨fkc,fkp bPt,fkc,fkp bPt,fka,fka,fku,fku,trivial⟩,⟨⟩⟩ fun f Y d h6 ag=>?_;simp only[fzw,Kw.a];obtain⟨q,x⟩:Sl Y (f 1 0).1 (P.1)∧Sl Y (f 1 1).1 (P.2.1):=h6 1;obtain⟨B,C⟩:Sl Y (f 3 0).1 (Q.1)∧Sl Y (f 3 1).1 (Q.2.1):=h6 3;obtain⟨⟨ap,A⟩,⟨aq,D⟩,-⟩:(v3.heap.size≤(f 4 0).2∧Vr Y (f 4 0).2 (ptA (f 1 0).1 (P.1) (f 1 0).2 (f 1 1).1 (P.2.1) (f 1 1).2 P.2.2))∧(v3.heap.size≤(f 5 0).2∧Vr Y (f 5 0).2 (ptA (f 3 0).1 (Q.1) (f 3 0).2 (f 3 1).1 (Q.2.1) (f 3 1).2 Q.2.2))∧True:=ag;clear h6;replace G:=G.trans d;replace J:=J.gr d;replace L:=L.gr d;replace S:=S.gr d;replace i:=i.gr d;replace l:=l.gr d;replace I:=fun k=>(I k).gr d;clear d
 go_upto_region 7 with fail
 refine wp_wS [.c (.agg (crA (k:Int) (nN k) U)),.c (.agg (ptA (f 1 0).1 (P.1) (f 1 0).2 (f 1 1).1 (P.2.1) (f 1 1).2 P.2.2)),.T,.T] [0,1,2] ⟨.g 31 0 S rfl,.g 41 0 A rfl,.k (fun K =>#[.agg (crA (k:Int) (nN k) U),.agg (ptA (f 1 0).1 (P.1) (f 1 0).2 (f 1 1).1 (P.2.1) (f 1 1).2 P.2.2)]) fun K W d X=>RtW.of_c (ron_is h1 h2 lP oP U (fun j=>(I j).gr d) (q.gr d) (x.gr d)),⟨⟩⟩ fun ax v5 d h7=>?_;simp only[fzw];clear h7;replace G:=G.trans d;replace J:=J.gr d;replace L:=L.gr d;replace S:=S.gr d;replace i:=i.gr d;replace l:=l.gr d;replace A:=A.gr d;replace D:=D.gr d;replace I:=fun k=>(I k).gr d;replace q:=q.gr d;replace x:=x.gr d;replace B:=B.gr d;replace C:=C.gr d;clear d
 go_upto_region 8 with fail
 refine wp_wS [.T,.F] [] ⟨⟩ fun ay v6 d h8=>?_;simp only[fzw];clear h8;replace G:=G.trans d;replace J:=J.gr d;replace L:=L.gr d;replace S:=S.gr d;replace i:=i.gr d;replace l:=l.gr d;replace A:=A.gr d;replace D:=D.gr d;replace I:=fun k=>(I k).gr d;replace q:=q.gr d;replace x:=x.gr d;replace B:=B.gr d;replace C:=C.gr d;clear d
 go_upto_region 10 with fail
 refine wp_w [.O,.O,.F,.F,.c (.agg (pnQ N)),.c (.agg (crA (k:Int) (nN k) U)),.c (.agg (ptA (f 1 0).1 (P.1) (f 1 0).2 (f 1 1).1 (P.2.1) (f 1 1).2 P.2.2)),.pt (N.1) (N.2.1) N.2.2,.c (.agg (pnQ N)),.F,.F] [1,4,5,6,7,8,9] ⟨.y (num_any _),.g 27 0 l rfl,.g 31 0 S rfl,.g 41 0 A rfl,.k (fun K =>#[.agg (crA (k:Int) (nN k) U),.agg (ptA (f 1 0).1 (P.1) (f 1 0).2 (f 1 1).1 (P.2.1) (f 1 1).2 P.2.2)]) fun K W d X=>RtW.of_pt (hN▸rnegQ k h1 h2 U oP (fun j=>(I j).gr d) (q.gr d) (x.gr d)),.k (fun K =>#[.agg (ptA (K 7 0).1 (N.1) (K 7 0).2 (K 7 1).1 (N.2.1) (K 7 1).2 N.2.2)]) fun K W d X=>RtW.of_c (Rt.c (rout_any _ _ _ _ _ _ _ _ (X 7 rfl).1 (X 7 rfl).2)),.s (.binOp .neq 27 (.const (.agg (pnQ N))) (.const (.agg (pnQ N))) 27) rfl fun W d=>by simp[go_sem,exI,nePn,eqN_self],⟨⟩⟩ fun ar v7 d ah=>?_;simp only[fzw];clear ah;replace G:=G.trans d;replace J:=J.gr d;replace L:=L.gr d;replace S:=S.gr d;replace i:=i.gr d;replace l:=l.gr d;replace A:=A.gr d;replace D:=D.gr d;replace I:=fun k=>(I k).gr d;replace q:=q.gr d;replace x:=x.gr d;replace B:=B.gr d;replace C:=C.gr d;clear d
 go_upto_region 12 with fail
 refine wp_wS [.c (.agg (crA (k:Int) (nN k) U)),.c (.agg (ptA (f 3 0).1 (Q.1) (f 3 0).2 (f 3 1).1 (Q.2.1) (f 3 1).2 Q.2.2)),.F,.T] [0,1,2] ⟨.g 31 0 S rfl,.g 41 0 D rfl,.k (fun K =>#[.agg (crA (k:Int) (nN k) U),.agg (ptA (f 3 0).1 (Q.1) (f 3 0).2 (f 3 1).1 (Q.2.1) (f 3 1).2 Q.2.2)]) fun K W d X=>RtW.of_c (ron_is h1 h2 lQ oQ U (fun j=>(I j).gr d) (B.gr d) (C.gr d)),⟨⟩⟩ fun au v8 d ai=>?_;simp only[fzw];clear ai;replace G:=G.trans d;replace J:=J.gr d;replace L:=L.gr d;replace S:=S.gr d;replace i:=i.gr d;replace l:=l.gr d;replace A:=A.gr d;replace D:=D.gr d;replace I:=fun k=>(I k).gr d;replace q:=q.gr d;replace x:=x.gr d;replace B:=B.gr d;replace C:=C.gr d;clear d
 go_upto_region 13 with fail
 refine wp_wS [.c (.int .i64 1401),.c (.int .i64 1401),.T,.T,.c (.agg (pnt 0 0 false)),.c (.agg (pnt 0 0 false)),.T,.T,.T,.T,.T,.T] [1,4,6,9] ⟨.y (num_any _),.g 27 0 i rfl,.s (.binOp .eql 27 (.const (.agg (pnt 0 0 false))) (.const (.agg (pnt 0 0 false))) 27) rfl fun W d=>by simp[go_sem,exI,eqPn,eqN_self],.z ac.out,⟨⟩⟩ fun av v9 d aj=>?_;simp only[fzw];clear aj;replace G:=G.trans d;replace J:=J.gr d;replace L:=L.gr d;replace S:=S.gr d;replace i:=i.gr d;replace l:=l.gr d;replace A:=A.gr d;replace D:=D.gr d;replace I:=fun k=>(I k).gr d;replace q:=q.gr d;replace x:=x.gr d;replace B:=B.gr d;replace C:=C.gr d;clear d
 go_wp2_with fail
 go_ret
 exact⟨rfl,G⟩
theorem laffines_3{k:Nat}(h1:1≤k)(h2:k≤15){P Q:Q3}(lP:P.1<M∧P.2.1<M)(lQ:Q.1<M∧Q.2.1<M)(oP:onB k P.1 P.2.1 P.2.2=true)(oQ:onB k Q.1 Q.2.1 Q.2.2=true)(w:World):Cg 3 #[.int .i64 k,.agg (pnQ P),.agg (pnQ Q)] w (.bool true):=by
 have aa:Hid (∀w,Calls prog 9 #[.int .i64 k] w (GetQ k w)):=fun w=>getq_yes k h1 h2 w;have ae:Hid (∀w,Cg 13 #[] w (.bool true)):=fun w=>awake14_any w;obtain⟨N,hN⟩:=exl (ngQ k P);obtain⟨A,hA⟩:=exl (plQ k P Q)
 go_enter func3,ntmps3
 go_upto_region 1 with fail
 refine gen_w (fun v=>Hid (Gr w v∧Vr v (w.heap.size) (pnQ P)∧Vr v (w.heap.size+1) (pnQ Q))) ⟨grA,vrA,vrA⟩ ?_;intro u0 HV
 go_upto_region 2 with (go_at_call 9;refine(aa.out _).mono ?_;rintro e WB ⟨V,rfl,K,GB⟩)
 obtain⟨e7,Y⟩:=exl (WB.heap.size);simp only[Y]
 refine gen_w (fun v=>Gr w v∧Vr v (w.heap.size) (pnQ P)∧Vr v (w.heap.size+1) (pnQ Q)∧Vr v e7 (crA (k:Int) (nN k) V)∧∀j,Sl v (V j).1 (nN k j)) ?_ ?_
 ·subst Y;obtain⟨G,L,S⟩:=HV.out;have g1:Gr WB (WB.alloc (.cells (crA (k:Int) (nN k) V) 31)):=(Gr.refl _).alloc _;exact⟨(G.trans GB).trans g1,(L.gr GB).gr g1,(S.gr GB).gr g1,Vr.new _ _ _,fun j=>(K j).gr g1⟩
 clear Y GB aa HV K;rintro v0 ⟨G,L,S,U,K⟩;refine wp_v false [.c (.int .i64 k),.c (.agg (pnQ P)),.c (.agg (pnQ Q)),.E (.agg (pnQ A)),.E (.agg (pnQ A)),.c (.agg (pnQ A)),.O,.a,.u,.O] [1,2,3] [⟨7,8,27,pnt 0 0 false,fun _=>pnQ A⟩] ⟨.g 27 0 L rfl,.g 27 0 S rfl,.z (addQ h1 h2 oP oQ hA),⟨⟩⟩ ⟨.k zPnt (.t rfl),⟨⟩⟩ fun ab v1 d h2 af=>?_;simp only[fzw,Kw.a];obtain⟨⟨ao,i⟩,-⟩:(v0.heap.size≤(ab 7 0).2∧Vr v1 (ab 7 0).2 (pnQ A))∧True:=af;clear h2;replace G:=G.trans d;replace L:=L.gr d;replace S:=S.gr d;replace U:=U.gr d;replace K:=fun k=>(K k).gr d;clear d
 go_upto_region 3 with fail
 refine wp_v false [.c (.int .i64 k),.c (.agg (pnQ P)),.E (.agg (pnQ N)),.E (.agg (pnQ N)),.c (.agg (pnQ N)),.O,.a,.u,.O] [1,2] [⟨6,7,27,pnt 0 0 false,fun _=>pnQ N⟩] ⟨.g 27 0 L rfl,.z (negQ h1 h2 oP hN),⟨⟩⟩ ⟨.k zPnt (.t rfl),⟨⟩⟩ fun ac v2 d h3 ag=>?_;simp only[fzw,Kw.a];obtain⟨⟨ap,l⟩,-⟩:(v1.heap.size≤(ac 6 0).2∧Vr v2 (ac 6 0).2 (pnQ N))∧True:=ag;clear h3;replace G:=G.trans d;replace L:=L.gr d;replace S:=S.gr d;replace U:=U.gr d;replace i:=i.gr d;replace K:=fun k=>(K k).gr d;clear d
 go_upto_region 4 with fail
 refine wp_wS [.T,.F] [] ⟨⟩ fun ax v3 d h4=>?_;simp only[fzw];clear h4;replace G:=G.trans d;replace L:=L.gr d;replace S:=S.gr d;replace U:=U.gr d;replace i:=i.gr d;replace l:=l.gr d;replace K:=fun k=>(K k).gr d;clear d
 go_upto_region 6 with fail
 refine wp_v true [.c (.agg (pnQ P)),.pt (P.1) (P.2.1) P.2.2,.c (.agg (pnQ Q)),.pt (Q.1) (Q.2.1) Q.2.2,.a,.a,.u,.u] [0,1,2,3] [⟨4,6,41,ptA none 0 0 none 0 0 false,fun J=>ptA (J 1 0).1 (P.1) (J 1 0).2 (J 1 1).1 (P.2.1) (J 1 1).2 P.2.2⟩,⟨5,7,41,ptA none 0 0 none 0 0 false,fun J=>ptA (J 3 0).1 (Q.1) (J 3 0).2 (J 3 1).1 (Q.2.1) (J 3 1).2 Q.2.2⟩] ⟨.g 27 0 L rfl,.k _ fun J X d W=>RtW.of_pt (rin_any _ _ _ lP.1 lP.2 _),.g 27 0 S rfl,.k _ fun J X d W=>RtW.of_pt (rin_any _ _ _ lQ.1 lQ.2 _),⟨⟩⟩ ⟨.mk (fun _ _ h=>Value.agg.inj (h 1 rfl)) (fun _ v b H F=>by dsimp only at H ⊢;simp[go_sem,exI,H,F]) zPt ⟨fkc,fkp bPt,fkc,fkp bPt,fka,fka,fku,fku,trivial⟩,.mk (fun _ _ h=>Value.agg.inj (h 3 rfl)) (fun _ v b H F=>by dsimp only at H ⊢;simp[go_sem,exI,H,F]) zPt ⟨fkc,fkp bPt,fkc,fkp bPt,fka,fka,fku,fku,trivial⟩,⟨⟩⟩ fun f Z d h6 ah=>?_;simp only[fzw,Kw.a];obtain⟨q,x⟩:Sl Z (f 1 0).1 (P.1)∧Sl Z (f 1 1).1 (P.2.1):=h6 1;obtain⟨C,D⟩:Sl Z (f 3 0).1 (Q.1)∧Sl Z (f 3 1).1 (Q.2.1):=h6 3;obtain⟨⟨aq,B⟩,⟨ar,I⟩,-⟩:(v3.heap.size≤(f 4 0).2∧Vr Z (f 4 0).2 (ptA (f 1 0).1 (P.1) (f 1 0).2 (f 1 1).1 (P.2.1) (f 1 1).2 P.2.2))∧(v3.heap.size≤(f 5 0).2∧Vr Z (f 5 0).2 (ptA (f 3 0).1 (Q.1) (f 3 0).2 (f 3 1).1 (Q.2.1) (f 3 1).2 Q.2.2))∧True:=ah;clear h6;replace G:=G.trans d;replace L:=L.gr d;replace S:=S.gr d;replace U:=U.gr d;replace i:=i.gr d;replace l:=l.gr d;replace K:=fun k=>(K k).gr d;clear d
 go_upto_region 7 with fail
 refine wp_wS [.c (.agg (crA (k:Int) (nN k) V)),.c (.agg (ptA (f 1 0).1 (P.1) (f 1 0).2 (f 1 1).1 (P.2.1) (f 1 1).2 P.2.2)),.T,.T] [0,1,2] ⟨.g 31 0 U rfl,.g 41 0 B rfl,.k (fun J =>#[.agg (crA (k:Int) (nN k) V),.agg (ptA (f 1 0).1 (P.1) (f 1 0).2 (f 1 1).1 (P.2.1) (f 1 1).2 P.2.2)]) fun J X d W=>RtW.of_c (ron_is h1 h2 lP oP V (fun j=>(K j).gr d) (q.gr d) (x.gr d)),⟨⟩⟩ fun ay v5 d h7=>?_;simp only[fzw];clear h7;replace G:=G.trans d;replace L:=L.gr d;replace S:=S.gr d;replace U:=U.gr d;replace i:=i.gr d;replace l:=l.gr d;replace B:=B.gr d;replace I:=I.gr d;replace K:=fun k=>(K k).gr d;replace q:=q.gr d;replace x:=x.gr d;replace C:=C.gr d;replace D:=D.gr d;clear d
 go_upto_region 8 with fail
 refine wp_wS [.T,.F] [] ⟨⟩ fun az v6 d h8=>?_;simp only[fzw];clear h8;replace G:=G.trans d;replace L:=L.gr d;replace S:=S.gr d;replace U:=U.gr d;replace i:=i.gr d;replace l:=l.gr d;replace B:=B.gr d;replace I:=I.gr d;replace K:=fun k=>(K k).gr d;replace q:=q.gr d;replace x:=x.gr d;replace C:=C.gr d;replace D:=D.gr d;clear d
 go_upto_region 10 with fail
 refine wp_w [.O,.O,.F,.F,.c (.agg (pnQ N)),.c (.agg (crA (k:Int) (nN k) V)),.c (.agg (ptA (f 1 0).1 (P.1) (f 1 0).2 (f 1 1).1 (P.2.1) (f 1 1).2 P.2.2)),.pt (N.1) (N.2.1) N.2.2,.c (.agg (pnQ N)),.F,.F] [1,4,5,6,7,8,9] ⟨.y (num_any _),.g 27 0 l rfl,.g 31 0 U rfl,.g 41 0 B rfl,.k (fun J =>#[.agg (crA (k:Int) (nN k) V),.agg (ptA (f 1 0).1 (P.1) (f 1 0).2 (f 1 1).1 (P.2.1) (f 1 1).2 P.2.2)]) fun J X d W=>RtW.of_pt (hN▸rnegQ k h1 h2 V oP (fun j=>(K j).gr d) (q.gr d) (x.gr d)),.k (fun J =>#[.agg (ptA (J 7 0).1 (N.1) (J 7 0).2 (J 7 1).1 (N.2.1) (J 7 1).2 N.2.2)]) fun J X d W=>RtW.of_c (Rt.c (rout_any _ _ _ _ _ _ _ _ (W 7 rfl).1 (W 7 rfl).2)),.s (.binOp .neq 27 (.const (.agg (pnQ N))) (.const (.agg (pnQ N))) 27) rfl fun X d=>by simp[go_sem,exI,nePn,eqN_self],⟨⟩⟩ fun au v7 d ai=>?_;simp only[fzw];clear ai;replace G:=G.trans d;replace L:=L.gr d;replace S:=S.gr d;replace U:=U.gr d;replace i:=i.gr d;replace l:=l.gr d;replace B:=B.gr d;replace I:=I.gr d;replace K:=fun k=>(K k).gr d;replace q:=q.gr d;replace x:=x.gr d;replace C:=C.gr d;replace D:=D.gr d;clear d
 go_upto_region 12 with fail
 refine wp_wS [.c (.agg (crA (k:Int) (nN k) V)),.c (.agg (ptA (f 3 0).1 (Q.1) (f 3 0).2 (f 3 1).1 (Q.2.1) (f 3 1).2 Q.2.2)),.T,.F] [0,1,2] ⟨.g 31 0 U rfl,.g 41 0 I rfl,.k (fun J =>#[.agg (crA (k:Int) (nN k) V),.agg (ptA (f 3 0).1 (Q.1) (f 3 0).2 (f 3 1).1 (Q.2.1) (f 3 1).2 Q.2.2)]) fun J X d W=>RtW.of_c (ron_is h1 h2 lQ oQ V (fun j=>(K j).gr d) (C.gr d) (D.gr d)),⟨⟩⟩ fun av v8 d aj=>?_;simp only[fzw];clear aj;replace G:=G.trans d;replace L:=L.gr d;replace S:=S.gr d;replace U:=U.gr d;replace i:=i.gr d;replace l:=l.gr d;replace B:=B.gr d;replace I:=I.gr d;replace K:=fun k=>(K k).gr d;replace q:=q.gr d;replace x:=x.gr d;replace C:=C.gr d;replace D:=D.gr d;clear d
 go_upto_region 14 with fail
 refine wp_w [.O,.O,.T,.T,.c (.agg (pnQ A)),.c (.agg (crA (k:Int) (nN k) V)),.c (.agg (ptA (f 1 0).1 (P.1) (f 1 0).2 (f 1 1).1 (P.2.1) (f 1 1).2 P.2.2)),.c (.agg (ptA (f 3 0).1 (Q.1) (f 3 0).2 (f 3 1).1 (Q.2.1) (f 3 1).2 Q.2.2)),.pt (A.1) (A.2.1) A.2.2,.c (.agg (pnQ A)),.T,.T,.T,.T,.T,.T] [1,4,5,6,7,8,9,10,13] ⟨.y (num_any _),.g 27 0 i rfl,.g 31 0 U rfl,.g 41 0 B rfl,.g 41 0 I rfl,.k (fun J =>#[.agg (crA (k:Int) (nN k) V),.agg (ptA (f 1 0).1 (P.1) (f 1 0).2 (f 1 1).1 (P.2.1) (f 1 1).2 P.2.2),.agg (ptA (f 3 0).1 (Q.1) (f 3 0).2 (f 3 1).1 (Q.2.1) (f 3 1).2 Q.2.2)]) fun J X d W=>RtW.of_pt (hA▸rplusQ k h1 h2 V oP oQ (fun j=>(K j).gr d) (q.gr d) (x.gr d) (C.gr d) (D.gr d)),.k (fun J =>#[.agg (ptA (J 8 0).1 (A.1) (J 8 0).2 (J 8 1).1 (A.2.1) (J 8 1).2 A.2.2)]) fun J X d W=>RtW.of_c (Rt.c (rout_any _ _ _ _ _ _ _ _ (W 8 rfl).1 (W 8 rfl).2)),.s (.binOp .eql 27 (.const (.agg (pnQ A))) (.const (.agg (pnQ A))) 27) rfl fun X d=>by simp[go_sem,exI,eqPn,eqN_self],.z ae.out,⟨⟩⟩ fun aw v9 d ak=>?_;simp only[fzw];clear ak;replace G:=G.trans d;replace L:=L.gr d;replace S:=S.gr d;replace U:=U.gr d;replace i:=i.gr d;replace l:=l.gr d;replace B:=B.gr d;replace I:=I.gr d;replace K:=fun k=>(K k).gr d;replace q:=q.gr d;replace x:=x.gr d;replace C:=C.gr d;replace D:=D.gr d;clear d
 go_wp2_with fail
 go_ret
 exact⟨rfl,G⟩
theorem laffines_any(id:Int)(P Q:Q3)(lP:P.1<M∧P.2.1<M)(lQ:Q.1<M∧Q.2.1<M)(w:World):Cg 3 #[.int .i64 id,.agg (pnQ P),.agg (pnQ Q)] w (.bool true):=by
 by_cases h:1≤id∧id≤15
 ·obtain⟨k,rfl⟩:∃k:Nat,id=(k:Int):=⟨id.toNat,by omega⟩
  have d:1≤k:=by omega
  have f:k≤15:=by omega
  by_cases oP:onB k P.1 P.2.1 P.2.2=true
  ·by_cases oQ:onB k Q.1 Q.2.1 Q.2.2=true
   ·exact laffines_3 d f lP lQ oP oQ w
   ·exact laffines_2 d f lP lQ oP (Bool.eq_false_iff.2 oQ) w
  ·exact laffines_1 d f lP lQ (Bool.eq_false_iff.2 oP) w
 ·exact laffines_0 id (by omega) P Q w
end
end
end Go.Proofs.YtffhepbppiocbaaGreat