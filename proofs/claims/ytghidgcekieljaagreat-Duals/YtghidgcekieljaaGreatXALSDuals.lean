import Derived.Test.YtghidgcekieljaaGreatXAQQ
namespace Go.Proofs.YtghidgcekieljaaGreat
open Go.RowKit Go.Proofs.Tryz
set_option maxRecDepth 100000
set_option maxHeartbeats 8000000
section
attribute [local go_sem ↓] uz1
attribute [local go_sem] uz2
section
attribute [local go_sem] uz8
attribute [local go_sem ↓] uz17 Go.wp_at_zero Go.wp_at_succ
attribute [local go_sem] uz18
theorem lsduals_0(id:Int)(h:id<1∨15<id){x y:Nat}(hx:x<M)(hy:y<M){Q:Q3}(lQ:Q.1<M∧Q.2.1<M)(w:World):Cg 3 #[.int .i64 id,.agg (nw 9 x),.agg (nw 9 y),.agg (pnt Q.1 Q.2.1 Q.2.2)] w (.bool true):=by
 have HGR:Hid (∀w,Cg 7 #[.int .i64 id] w (.tuple #[.agg #[.int .i64 0,.slice none 0 0,.slice none 0 0,.slice none 0 0,.slice none 0 0,.slice none 0 0,.slice none 0 0],.bool false])):=fun w=>get_no id h w;have HAW:Hid (∀w,Cg 12 #[] w (.bool true)):=fun w=>awake20_any w
 go_enter func3,ntmps3
 go_upto_region 1 with fail
 refine gen_w (fun v=>Hid (Gr w v∧Vr v (w.heap.size) (nw 9 x)∧Vr v (w.heap.size+1) (nw 9 y)∧Vr v (w.heap.size+1+1) (pnt Q.1 Q.2.1 Q.2.2))) ⟨grA,vrA,vrA,vrA⟩ ?_;intro u0 HV
 go_upto_region 2 with (go_at_call 7;refine(HGR.out _).mono ?_;rintro e WB ⟨rfl,GB⟩)
 obtain⟨e7,he7⟩:=exl (WB.heap.size);simp only[he7]
 refine gen_w (fun v=>Gr w v∧Vr v (w.heap.size) (nw 9 x)∧Vr v (w.heap.size+1) (nw 9 y)∧Vr v (w.heap.size+1+1) (pnt Q.1 Q.2.1 Q.2.2)) ?_ ?_
 ·subst he7;obtain⟨G,c0,c1,c2⟩:=HV.out;have g1:Gr WB (WB.alloc (.cells (#[.int .i64 0,.slice none 0 0,.slice none 0 0,.slice none 0 0,.slice none 0 0,.slice none 0 0,.slice none 0 0]) 31)):=(Gr.refl _).alloc _;exact⟨(G.trans GB).trans g1,(c0.gr GB).gr g1,(c1.gr GB).gr g1,(c2.gr GB).gr g1⟩
 clear he7 GB HGR HV;rintro v0 ⟨G,c0,c1,c2⟩;refine wp_v false [.c (.int .i64 id),.N x,.N y,.c (.agg (pnt Q.1 Q.2.1 Q.2.2)),.c (.tuple #[.agg (pnt 0 0 false),.int .i64 2000]),.c (.tuple #[.agg (pnt 0 0 false),.int .i64 2000]),.c (.agg (pnt 0 0 false)),.c (.int .i64 2000),.a,.u,.c (.int .i64 2000)] [1,2,3,4] [⟨8,9,27,pnt 0 0 false,fun _=>pnt 0 0 false⟩] ⟨.g 25 0 c0 rfl,.g 25 0 c1 rfl,.g 27 0 c2 rfl,.z (dmul_no id h (Q:=Q) (x:=x) (y:=y)),⟨⟩⟩ ⟨.k zPnt (.t rfl),⟨⟩⟩ fun yw2 v1 hg h2 hV2=>?_;simp only[fzw,Kw.a];obtain⟨⟨N2_8,V2_8⟩,-⟩:(v0.heap.size≤(yw2 8 0).2∧Vr v1 (yw2 8 0).2 (pnt 0 0 false))∧True:=hV2;clear h2;have g2:=hg;clear hg
 go_upto_region 3 with fail
 refine wp_v true [.N x,.n (x),.N y,.n (y),.c (.agg (pnt Q.1 Q.2.1 Q.2.2)),.pt (Q.1) (Q.2.1) Q.2.2,.a,.n (x),.n (y),.u] [0,1,2,3,4,5,7,8] [⟨6,9,39,ptA none 0 0 none 0 0 false,fun yy=>ptA (yy 5 0).1 (Q.1) (yy 5 0).2 (yy 5 1).1 (Q.2.1) (yy 5 1).2 Q.2.2⟩] ⟨.g 25 0 (c0.gr g2) rfl,.k _ fun yy vv hg hh=>RtW.of_n (fm_any hx),.g 25 0 (c1.gr g2) rfl,.k _ fun yy vv hg hh=>RtW.of_n (fm_any hy),.g 27 0 (c2.gr g2) rfl,.k _ fun yy vv hg hh=>RtW.of_pt (rin_any _ _ _ lQ.1 lQ.2 _),.m 1,.m 3,⟨⟩⟩ ⟨.mk (fun _ _ h=>Value.agg.inj (h 5 rfl)) (fun _ v b H F=>by dsimp only at H ⊢;simp[go_sem,exI,H,F]) zPt ⟨fkc,fkn bPt,fkc,fkn bPt,fkc,fkp bPt,fka,fkn bPt,fkn bPt,fku,trivial⟩,⟨⟩⟩ fun yw3 v2 hg h3 hV3=>?_;simp only[fzw,Kw.a];obtain⟨S3_5,T3_5⟩:Sl v2 (yw3 5 0).1 (Q.1)∧Sl v2 (yw3 5 1).1 (Q.2.1):=h3 5;have S3_7:Sl v2 (yw3 7 0).1 (x):=h3 7;have S3_8:Sl v2 (yw3 8 0).1 (y):=h3 8;obtain⟨⟨N3_6,V3_6⟩,-⟩:(v1.heap.size≤(yw3 6 0).2∧Vr v2 (yw3 6 0).2 (ptA (yw3 5 0).1 (Q.1) (yw3 5 0).2 (yw3 5 1).1 (Q.2.1) (yw3 5 1).2 Q.2.2))∧True:=hV3;clear h3;replace g2:=g2.trans hg;have g3:=hg;clear hg
 go_upto_region 4 with fail
 refine wp_wS [.F,.T,.T] [] ⟨⟩ fun yw4 v3 hg h4=>?_;simp only[fzw];clear h4;replace g2:=g2.trans hg;replace g3:=g3.trans hg;have g4:=hg;clear hg
 go_upto_region 5 with fail
 refine wp_wS [.c (.int .i64 2000),.c (.int .i64 2000),.T,.T,.c (.agg (pnt 0 0 false)),.c (.agg (pnt 0 0 false)),.T,.T,.T,.T,.T,.T] [1,4,6,9] ⟨.y (num_any _),.g 27 0 (V2_8.gr g3) rfl,.s (.binOp .eql 27 (.const (.agg (pnt 0 0 false))) (.const (.agg (pnt 0 0 false))) 27) rfl fun vv hg=>by simp[go_sem,exI,eqPn,eqN_self],.z HAW.out,⟨⟩⟩ fun yw5 v4 hg h5=>?_;simp only[fzw];clear h5;replace g2:=g2.trans hg;replace g3:=g3.trans hg;replace g4:=g4.trans hg;clear hg;replace G:=G.trans g2;replace c0:=c0.gr g2;replace c1:=c1.gr g2;replace c2:=c2.gr g2;replace V2_8:=V2_8.gr g3;replace V3_6:=V3_6.gr g4;replace S3_5:=S3_5.gr g4;replace T3_5:=T3_5.gr g4;replace S3_7:=S3_7.gr g4;replace S3_8:=S3_8.gr g4;clear g2 g3 g4
 go_wp2_with fail
 go_ret
 exact⟨rfl,G⟩
theorem lsduals_1{k:Nat}(h1:1≤k)(h2:k≤15){x y:Nat}(hx:x<M)(hy:y<M){Q:Q3}(lQ:Q.1<M∧Q.2.1<M)(oQ:onB k Q.1 Q.2.1 Q.2.2=false)(w:World):Cg 3 #[.int .i64 (k:Int),.agg (nw 9 x),.agg (nw 9 y),.agg (pnt Q.1 Q.2.1 Q.2.2)] w (.bool true):=by
 have HGR:Hid (∀w,Calls prog 7 #[.int .i64 (k:Int)] w (GetQ k w)):=fun w=>getq_yes k h1 h2 w;have HAW:Hid (∀w,Cg 12 #[] w (.bool true)):=fun w=>awake20_any w
 go_enter func3,ntmps3
 go_upto_region 1 with fail
 refine gen_w (fun v=>Hid (Gr w v∧Vr v (w.heap.size) (nw 9 x)∧Vr v (w.heap.size+1) (nw 9 y)∧Vr v (w.heap.size+1+1) (pnt Q.1 Q.2.1 Q.2.2))) ⟨grA,vrA,vrA,vrA⟩ ?_;intro u0 HV
 go_upto_region 2 with (go_at_call 7;refine(HGR.out _).mono ?_;rintro e WB ⟨qc,rfl,HQ,GB⟩)
 obtain⟨e7,he7⟩:=exl (WB.heap.size);simp only[he7]
 refine gen_w (fun v=>Gr w v∧Vr v (w.heap.size) (nw 9 x)∧Vr v (w.heap.size+1) (nw 9 y)∧Vr v (w.heap.size+1+1) (pnt Q.1 Q.2.1 Q.2.2)∧Vr v e7 (crA (k:Int) (nN k) qc)∧∀j,Sl v (qc j).1 (nN k j)) ?_ ?_
 ·subst he7;obtain⟨G,c0,c1,c2⟩:=HV.out;have g1:Gr WB (WB.alloc (.cells (crA (k:Int) (nN k) qc) 31)):=(Gr.refl _).alloc _;exact⟨(G.trans GB).trans g1,(c0.gr GB).gr g1,(c1.gr GB).gr g1,(c2.gr GB).gr g1,Vr.new _ _ _,fun j=>(HQ j).gr g1⟩
 clear he7 GB HGR HV HQ;rintro v0 ⟨G,c0,c1,c2,c7,HQ⟩;refine wp_v false [.c (.int .i64 (k:Int)),.N x,.N y,.c (.agg (pnt Q.1 Q.2.1 Q.2.2)),.c (.tuple #[.agg (pnt 0 0 false),.int .i64 2001]),.c (.tuple #[.agg (pnt 0 0 false),.int .i64 2001]),.c (.agg (pnt 0 0 false)),.c (.int .i64 2001),.a,.u,.c (.int .i64 2001)] [1,2,3,4] [⟨8,9,27,pnt 0 0 false,fun _=>pnt 0 0 false⟩] ⟨.g 25 0 c0 rfl,.g 25 0 c1 rfl,.g 27 0 c2 rfl,.z (dmul_off h1 h2 (Q:=Q) lQ oQ (x:=x) (y:=y)),⟨⟩⟩ ⟨.k zPnt (.t rfl),⟨⟩⟩ fun yw2 v1 hg h2 hV2=>?_;simp only[fzw,Kw.a];obtain⟨⟨N2_8,V2_8⟩,-⟩:(v0.heap.size≤(yw2 8 0).2∧Vr v1 (yw2 8 0).2 (pnt 0 0 false))∧True:=hV2;clear h2;have g2:=hg;clear hg
 go_upto_region 3 with fail
 refine wp_v true [.N x,.n (x),.N y,.n (y),.c (.agg (pnt Q.1 Q.2.1 Q.2.2)),.pt (Q.1) (Q.2.1) Q.2.2,.a,.n (x),.n (y),.u] [0,1,2,3,4,5,7,8] [⟨6,9,39,ptA none 0 0 none 0 0 false,fun yy=>ptA (yy 5 0).1 (Q.1) (yy 5 0).2 (yy 5 1).1 (Q.2.1) (yy 5 1).2 Q.2.2⟩] ⟨.g 25 0 (c0.gr g2) rfl,.k _ fun yy vv hg hh=>RtW.of_n (fm_any hx),.g 25 0 (c1.gr g2) rfl,.k _ fun yy vv hg hh=>RtW.of_n (fm_any hy),.g 27 0 (c2.gr g2) rfl,.k _ fun yy vv hg hh=>RtW.of_pt (rin_any _ _ _ lQ.1 lQ.2 _),.m 1,.m 3,⟨⟩⟩ ⟨.mk (fun _ _ h=>Value.agg.inj (h 5 rfl)) (fun _ v b H F=>by dsimp only at H ⊢;simp[go_sem,exI,H,F]) zPt ⟨fkc,fkn bPt,fkc,fkn bPt,fkc,fkp bPt,fka,fkn bPt,fkn bPt,fku,trivial⟩,⟨⟩⟩ fun yw3 v2 hg h3 hV3=>?_;simp only[fzw,Kw.a];obtain⟨S3_5,T3_5⟩:Sl v2 (yw3 5 0).1 (Q.1)∧Sl v2 (yw3 5 1).1 (Q.2.1):=h3 5;have S3_7:Sl v2 (yw3 7 0).1 (x):=h3 7;have S3_8:Sl v2 (yw3 8 0).1 (y):=h3 8;obtain⟨⟨N3_6,V3_6⟩,-⟩:(v1.heap.size≤(yw3 6 0).2∧Vr v2 (yw3 6 0).2 (ptA (yw3 5 0).1 (Q.1) (yw3 5 0).2 (yw3 5 1).1 (Q.2.1) (yw3 5 1).2 Q.2.2))∧True:=hV3;clear h3;replace g2:=g2.trans hg;have g3:=hg;clear hg
 go_upto_region 4 with fail
 refine wp_wS [.T,.F,.F] [] ⟨⟩ fun yw4 v3 hg h4=>?_;simp only[fzw];clear h4;replace g2:=g2.trans hg;replace g3:=g3.trans hg;have g4:=hg;clear hg
 go_upto_region 6 with fail
 refine wp_wS [.c (.agg (crA (k:Int) (nN k) qc)),.c (.agg (ptA (yw3 5 0).1 (Q.1) (yw3 5 0).2 (yw3 5 1).1 (Q.2.1) (yw3 5 1).2 Q.2.2)),.F,.T,.T] [0,1,2] ⟨.g 31 0 (c7.gr g2) rfl,.g 39 0 (V3_6.gr g4) rfl,.k (fun yy =>#[.agg (crA (k:Int) (nN k) qc),.agg (ptA (yw3 5 0).1 (Q.1) (yw3 5 0).2 (yw3 5 1).1 (Q.2.1) (yw3 5 1).2 Q.2.2)]) fun yy vv hg hh=>RtW.of_c (ron_is h1 h2 lQ oQ qc (fun j=>(HQ j).gr (g2.trans hg)) (S3_5.gr (g4.trans hg)) (T3_5.gr (g4.trans hg))),⟨⟩⟩ fun yw6 v4 hg h6=>?_;simp only[fzw];clear h6;replace g2:=g2.trans hg;replace g3:=g3.trans hg;replace g4:=g4.trans hg;clear hg
 go_upto_region 7 with fail
 refine wp_wS [.c (.int .i64 2001),.c (.int .i64 2001),.T,.T,.c (.agg (pnt 0 0 false)),.c (.agg (pnt 0 0 false)),.T,.T,.T,.T,.T,.T] [1,4,6,9] ⟨.y (num_any _),.g 27 0 (V2_8.gr g3) rfl,.s (.binOp .eql 27 (.const (.agg (pnt 0 0 false))) (.const (.agg (pnt 0 0 false))) 27) rfl fun vv hg=>by simp[go_sem,exI,eqPn,eqN_self],.z HAW.out,⟨⟩⟩ fun yw7 v5 hg h7=>?_;simp only[fzw];clear h7;replace g2:=g2.trans hg;replace g3:=g3.trans hg;replace g4:=g4.trans hg;clear hg;replace G:=G.trans g2;replace c0:=c0.gr g2;replace c1:=c1.gr g2;replace c2:=c2.gr g2;replace c7:=c7.gr g2;replace HQ:=fun k=>(HQ k).gr g2;replace V2_8:=V2_8.gr g3;replace V3_6:=V3_6.gr g4;replace S3_5:=S3_5.gr g4;replace T3_5:=T3_5.gr g4;replace S3_7:=S3_7.gr g4;replace S3_8:=S3_8.gr g4;clear g2 g3 g4
 go_wp2_with fail
 go_ret
 exact⟨rfl,G⟩
theorem lsduals_2{k:Nat}(h1:1≤k)(h2:k≤15){x y:Nat}(hx:x<M)(hy:y<M){Q:Q3}(lQ:Q.1<M∧Q.2.1<M)(oQ:OnQ k Q)(gx:oN k≤x)(w:World):Cg 3 #[.int .i64 (k:Int),.agg (nw 9 x),.agg (nw 9 y),.agg (pnt Q.1 Q.2.1 Q.2.2)] w (.bool true):=by
 have HGR:Hid (∀w,Calls prog 7 #[.int .i64 (k:Int)] w (GetQ k w)):=fun w=>getq_yes k h1 h2 w;have HAW:Hid (∀w,Cg 12 #[] w (.bool true)):=fun w=>awake20_any w
 have hdN:dl (oN k)≤400:=by have:=oN_dl k;omega
 obtain⟨zx,hzx⟩:=exl (cmpZ x (oN k))
 have hdx:dl x≤400:=by have:=dl_M x hx;omega
 have zzx:0≤zx:=by rw[←hzx];unfold cmpZ;rw[if_neg (Nat.not_lt.2 gx)];split <;> decide
 go_enter func3,ntmps3
 go_upto_region 1 with fail
 refine gen_w (fun v=>Hid (Gr w v∧Vr v (w.heap.size) (nw 9 x)∧Vr v (w.heap.size+1) (nw 9 y)∧Vr v (w.heap.size+1+1) (pnt Q.1 Q.2.1 Q.2.2))) ⟨grA,vrA,vrA,vrA⟩ ?_;intro u0 HV
 go_upto_region 2 with (go_at_call 7;refine(HGR.out _).mono ?_;rintro e WB ⟨qc,rfl,HQ,GB⟩)
 obtain⟨e7,he7⟩:=exl (WB.heap.size);simp only[he7]
 refine gen_w (fun v=>Gr w v∧Vr v (w.heap.size) (nw 9 x)∧Vr v (w.heap.size+1) (nw 9 y)∧Vr v (w.heap.size+1+1) (pnt Q.1 Q.2.1 Q.2.2)∧Vr v e7 (crA (k:Int) (nN k) qc)∧∀j,Sl v (qc j).1 (nN k j)) ?_ ?_
 ·subst he7;obtain⟨G,c0,c1,c2⟩:=HV.out;have g1:Gr WB (WB.alloc (.cells (crA (k:Int) (nN k) qc) 31)):=(Gr.refl _).alloc _;exact⟨(G.trans GB).trans g1,(c0.gr GB).gr g1,(c1.gr GB).gr g1,(c2.gr GB).gr g1,Vr.new _ _ _,fun j=>(HQ j).gr g1⟩
 clear he7 GB HGR HV HQ;rintro v0 ⟨G,c0,c1,c2,c7,HQ⟩;refine wp_v false [.c (.int .i64 (k:Int)),.N x,.N y,.c (.agg (pnt Q.1 Q.2.1 Q.2.2)),.c (.tuple #[.agg (pnt 0 0 false),.int .i64 2002]),.c (.tuple #[.agg (pnt 0 0 false),.int .i64 2002]),.c (.agg (pnt 0 0 false)),.c (.int .i64 2002),.a,.u,.c (.int .i64 2002)] [1,2,3,4] [⟨8,9,27,pnt 0 0 false,fun _=>pnt 0 0 false⟩] ⟨.g 25 0 c0 rfl,.g 25 0 c1 rfl,.g 27 0 c2 rfl,.z (dmul_bigu h1 h2 (Q:=Q) oQ (x:=x) (y:=y) hx gx),⟨⟩⟩ ⟨.k zPnt (.t rfl),⟨⟩⟩ fun yw2 v1 hg h2 hV2=>?_;simp only[fzw,Kw.a];obtain⟨⟨N2_8,V2_8⟩,-⟩:(v0.heap.size≤(yw2 8 0).2∧Vr v1 (yw2 8 0).2 (pnt 0 0 false))∧True:=hV2;clear h2;have g2:=hg;clear hg
 go_upto_region 3 with fail
 refine wp_v true [.N x,.n (x),.N y,.n (y),.c (.agg (pnt Q.1 Q.2.1 Q.2.2)),.pt (Q.1) (Q.2.1) Q.2.2,.a,.n (x),.n (y),.u] [0,1,2,3,4,5,7,8] [⟨6,9,39,ptA none 0 0 none 0 0 false,fun yy=>ptA (yy 5 0).1 (Q.1) (yy 5 0).2 (yy 5 1).1 (Q.2.1) (yy 5 1).2 Q.2.2⟩] ⟨.g 25 0 (c0.gr g2) rfl,.k _ fun yy vv hg hh=>RtW.of_n (fm_any hx),.g 25 0 (c1.gr g2) rfl,.k _ fun yy vv hg hh=>RtW.of_n (fm_any hy),.g 27 0 (c2.gr g2) rfl,.k _ fun yy vv hg hh=>RtW.of_pt (rin_any _ _ _ lQ.1 lQ.2 _),.m 1,.m 3,⟨⟩⟩ ⟨.mk (fun _ _ h=>Value.agg.inj (h 5 rfl)) (fun _ v b H F=>by dsimp only at H ⊢;simp[go_sem,exI,H,F]) zPt ⟨fkc,fkn bPt,fkc,fkn bPt,fkc,fkp bPt,fka,fkn bPt,fkn bPt,fku,trivial⟩,⟨⟩⟩ fun yw3 v2 hg h3 hV3=>?_;simp only[fzw,Kw.a];obtain⟨S3_5,T3_5⟩:Sl v2 (yw3 5 0).1 (Q.1)∧Sl v2 (yw3 5 1).1 (Q.2.1):=h3 5;have S3_7:Sl v2 (yw3 7 0).1 (x):=h3 7;have S3_8:Sl v2 (yw3 8 0).1 (y):=h3 8;obtain⟨⟨N3_6,V3_6⟩,-⟩:(v1.heap.size≤(yw3 6 0).2∧Vr v2 (yw3 6 0).2 (ptA (yw3 5 0).1 (Q.1) (yw3 5 0).2 (yw3 5 1).1 (Q.2.1) (yw3 5 1).2 Q.2.2))∧True:=hV3;clear h3;replace g2:=g2.trans hg;have g3:=hg;clear hg
 go_upto_region 4 with fail
 refine wp_wS [.T,.F,.F] [] ⟨⟩ fun yw4 v3 hg h4=>?_;simp only[fzw];clear h4;replace g2:=g2.trans hg;replace g3:=g3.trans hg;have g4:=hg;clear hg
 go_upto_region 6 with fail
 refine wp_wS [.c (.agg (crA (k:Int) (nN k) qc)),.c (.agg (ptA (yw3 5 0).1 (Q.1) (yw3 5 0).2 (yw3 5 1).1 (Q.2.1) (yw3 5 1).2 Q.2.2)),.T,.F,.F] [0,1,2] ⟨.g 31 0 (c7.gr g2) rfl,.g 39 0 (V3_6.gr g4) rfl,.k (fun yy =>#[.agg (crA (k:Int) (nN k) qc),.agg (ptA (yw3 5 0).1 (Q.1) (yw3 5 0).2 (yw3 5 1).1 (Q.2.1) (yw3 5 1).2 Q.2.2)]) fun yy vv hg hh=>RtW.of_c (ron_is h1 h2 lQ oQ qc (fun j=>(HQ j).gr (g2.trans hg)) (S3_5.gr (g4.trans hg)) (T3_5.gr (g4.trans hg))),⟨⟩⟩ fun yw6 v4 hg h6=>?_;simp only[fzw];clear h6;replace g2:=g2.trans hg;replace g3:=g3.trans hg;replace g4:=g4.trans hg;clear hg
 go_upto_region 8 with fail
 refine wp_wS [.c (.slice (yw3 7 0).1 (dl (x)) (yw3 7 0).2),.c (pv e7 4),.c (.slice (qc 3).1 (dl (oN k)) (qc 3).2),.c (.int .i64 zx),.T,.T,.u,.u,.u,.u,.u,.T,.T] [2,3,4] ⟨.o 29 4 (c7.gr g2) rfl rfl,.k (fun yy =>#[.slice (yw3 7 0).1 (dl (x)) (yw3 7 0).2,.slice (qc 3).1 (dl (oN k)) (qc 3).2]) fun yy vv hg hh=>RtW.of_c (cz_any (S3_7.gr (g4.trans hg)) ((HQ 3).gr (g2.trans hg)) hdx hdN hzx),.s (.binOp .geq 3 (.const (.int .i64 zx)) (.const (.int .i64 0)) 3) rfl fun vv hg=>by simp[go_sem,exI,zzx],⟨⟩⟩ fun yw8 v5 hg h8=>?_;simp only[fzw];clear h8;replace g2:=g2.trans hg;replace g3:=g3.trans hg;replace g4:=g4.trans hg;clear hg
 go_upto_region 9 with fail
 refine wp_wS [.c (.int .i64 2002),.c (.int .i64 2002),.T,.T,.c (.agg (pnt 0 0 false)),.c (.agg (pnt 0 0 false)),.T,.T,.T,.T,.T,.T] [1,4,6,9] ⟨.y (num_any _),.g 27 0 (V2_8.gr g3) rfl,.s (.binOp .eql 27 (.const (.agg (pnt 0 0 false))) (.const (.agg (pnt 0 0 false))) 27) rfl fun vv hg=>by simp[go_sem,exI,eqPn,eqN_self],.z HAW.out,⟨⟩⟩ fun yw9 v6 hg h9=>?_;simp only[fzw];clear h9;replace g2:=g2.trans hg;replace g3:=g3.trans hg;replace g4:=g4.trans hg;clear hg;replace G:=G.trans g2;replace c0:=c0.gr g2;replace c1:=c1.gr g2;replace c2:=c2.gr g2;replace c7:=c7.gr g2;replace HQ:=fun k=>(HQ k).gr g2;replace V2_8:=V2_8.gr g3;replace V3_6:=V3_6.gr g4;replace S3_5:=S3_5.gr g4;replace T3_5:=T3_5.gr g4;replace S3_7:=S3_7.gr g4;replace S3_8:=S3_8.gr g4;clear g2 g3 g4
 go_wp2_with fail
 go_ret
 exact⟨rfl,G⟩
theorem lsduals_3{k:Nat}(h1:1≤k)(h2:k≤15){x y:Nat}(hx:x<M)(hy:y<M){Q:Q3}(lQ:Q.1<M∧Q.2.1<M)(oQ:OnQ k Q)(lx:x<oN k)(gy:oN k≤y)(w:World):Cg 3 #[.int .i64 (k:Int),.agg (nw 9 x),.agg (nw 9 y),.agg (pnt Q.1 Q.2.1 Q.2.2)] w (.bool true):=by
 have HGR:Hid (∀w,Calls prog 7 #[.int .i64 (k:Int)] w (GetQ k w)):=fun w=>getq_yes k h1 h2 w;have HAW:Hid (∀w,Cg 12 #[] w (.bool true)):=fun w=>awake20_any w
 have hdN:dl (oN k)≤400:=by have:=oN_dl k;omega
 obtain⟨zx,hzx⟩:=exl (cmpZ x (oN k))
 have hdx:dl x≤400:=by have:=dl_M x hx;omega
 have zzx:¬0≤zx:=by rw[←hzx];unfold cmpZ;rw[if_pos lx];decide
 obtain⟨zy,hzy⟩:=exl (cmpZ y (oN k))
 have hdy:dl y≤400:=by have:=dl_M y hy;omega
 have zzy:0≤zy:=by rw[←hzy];unfold cmpZ;rw[if_neg (Nat.not_lt.2 gy)];split <;> decide
 go_enter func3,ntmps3
 go_upto_region 1 with fail
 refine gen_w (fun v=>Hid (Gr w v∧Vr v (w.heap.size) (nw 9 x)∧Vr v (w.heap.size+1) (nw 9 y)∧Vr v (w.heap.size+1+1) (pnt Q.1 Q.2.1 Q.2.2))) ⟨grA,vrA,vrA,vrA⟩ ?_;intro u0 HV
 go_upto_region 2 with (go_at_call 7;refine(HGR.out _).mono ?_;rintro e WB ⟨qc,rfl,HQ,GB⟩)
 obtain⟨e7,he7⟩:=exl (WB.heap.size);simp only[he7]
 refine gen_w (fun v=>Gr w v∧Vr v (w.heap.size) (nw 9 x)∧Vr v (w.heap.size+1) (nw 9 y)∧Vr v (w.heap.size+1+1) (pnt Q.1 Q.2.1 Q.2.2)∧Vr v e7 (crA (k:Int) (nN k) qc)∧∀j,Sl v (qc j).1 (nN k j)) ?_ ?_
 ·subst he7;obtain⟨G,c0,c1,c2⟩:=HV.out;have g1:Gr WB (WB.alloc (.cells (crA (k:Int) (nN k) qc) 31)):=(Gr.refl _).alloc _;exact⟨(G.trans GB).trans g1,(c0.gr GB).gr g1,(c1.gr GB).gr g1,(c2.gr GB).gr g1,Vr.new _ _ _,fun j=>(HQ j).gr g1⟩
 clear he7 GB HGR HV HQ;rintro v0 ⟨G,c0,c1,c2,c7,HQ⟩;refine wp_v false [.c (.int .i64 (k:Int)),.N x,.N y,.c (.agg (pnt Q.1 Q.2.1 Q.2.2)),.c (.tuple #[.agg (pnt 0 0 false),.int .i64 2002]),.c (.tuple #[.agg (pnt 0 0 false),.int .i64 2002]),.c (.agg (pnt 0 0 false)),.c (.int .i64 2002),.a,.u,.c (.int .i64 2002)] [1,2,3,4] [⟨8,9,27,pnt 0 0 false,fun _=>pnt 0 0 false⟩] ⟨.g 25 0 c0 rfl,.g 25 0 c1 rfl,.g 27 0 c2 rfl,.z (dmul_bigv h1 h2 (Q:=Q) oQ (x:=x) (y:=y) lx hy gy),⟨⟩⟩ ⟨.k zPnt (.t rfl),⟨⟩⟩ fun yw2 v1 hg h2 hV2=>?_;simp only[fzw,Kw.a];obtain⟨⟨N2_8,V2_8⟩,-⟩:(v0.heap.size≤(yw2 8 0).2∧Vr v1 (yw2 8 0).2 (pnt 0 0 false))∧True:=hV2;clear h2;have g2:=hg;clear hg
 go_upto_region 3 with fail
 refine wp_v true [.N x,.n (x),.N y,.n (y),.c (.agg (pnt Q.1 Q.2.1 Q.2.2)),.pt (Q.1) (Q.2.1) Q.2.2,.a,.n (x),.n (y),.u] [0,1,2,3,4,5,7,8] [⟨6,9,39,ptA none 0 0 none 0 0 false,fun yy=>ptA (yy 5 0).1 (Q.1) (yy 5 0).2 (yy 5 1).1 (Q.2.1) (yy 5 1).2 Q.2.2⟩] ⟨.g 25 0 (c0.gr g2) rfl,.k _ fun yy vv hg hh=>RtW.of_n (fm_any hx),.g 25 0 (c1.gr g2) rfl,.k _ fun yy vv hg hh=>RtW.of_n (fm_any hy),.g 27 0 (c2.gr g2) rfl,.k _ fun yy vv hg hh=>RtW.of_pt (rin_any _ _ _ lQ.1 lQ.2 _),.m 1,.m 3,⟨⟩⟩ ⟨.mk (fun _ _ h=>Value.agg.inj (h 5 rfl)) (fun _ v b H F=>by dsimp only at H ⊢;simp[go_sem,exI,H,F]) zPt ⟨fkc,fkn bPt,fkc,fkn bPt,fkc,fkp bPt,fka,fkn bPt,fkn bPt,fku,trivial⟩,⟨⟩⟩ fun yw3 v2 hg h3 hV3=>?_;simp only[fzw,Kw.a];obtain⟨S3_5,T3_5⟩:Sl v2 (yw3 5 0).1 (Q.1)∧Sl v2 (yw3 5 1).1 (Q.2.1):=h3 5;have S3_7:Sl v2 (yw3 7 0).1 (x):=h3 7;have S3_8:Sl v2 (yw3 8 0).1 (y):=h3 8;obtain⟨⟨N3_6,V3_6⟩,-⟩:(v1.heap.size≤(yw3 6 0).2∧Vr v2 (yw3 6 0).2 (ptA (yw3 5 0).1 (Q.1) (yw3 5 0).2 (yw3 5 1).1 (Q.2.1) (yw3 5 1).2 Q.2.2))∧True:=hV3;clear h3;replace g2:=g2.trans hg;have g3:=hg;clear hg
 go_upto_region 4 with fail
 refine wp_wS [.T,.F,.F] [] ⟨⟩ fun yw4 v3 hg h4=>?_;simp only[fzw];clear h4;replace g2:=g2.trans hg;replace g3:=g3.trans hg;have g4:=hg;clear hg
 go_upto_region 6 with fail
 refine wp_wS [.c (.agg (crA (k:Int) (nN k) qc)),.c (.agg (ptA (yw3 5 0).1 (Q.1) (yw3 5 0).2 (yw3 5 1).1 (Q.2.1) (yw3 5 1).2 Q.2.2)),.T,.F,.F] [0,1,2] ⟨.g 31 0 (c7.gr g2) rfl,.g 39 0 (V3_6.gr g4) rfl,.k (fun yy =>#[.agg (crA (k:Int) (nN k) qc),.agg (ptA (yw3 5 0).1 (Q.1) (yw3 5 0).2 (yw3 5 1).1 (Q.2.1) (yw3 5 1).2 Q.2.2)]) fun yy vv hg hh=>RtW.of_c (ron_is h1 h2 lQ oQ qc (fun j=>(HQ j).gr (g2.trans hg)) (S3_5.gr (g4.trans hg)) (T3_5.gr (g4.trans hg))),⟨⟩⟩ fun yw6 v4 hg h6=>?_;simp only[fzw];clear h6;replace g2:=g2.trans hg;replace g3:=g3.trans hg;replace g4:=g4.trans hg;clear hg
 go_upto_region 8 with fail
 refine wp_wS [.c (.slice (yw3 7 0).1 (dl (x)) (yw3 7 0).2),.c (pv e7 4),.c (.slice (qc 3).1 (dl (oN k)) (qc 3).2),.c (.int .i64 zx),.F,.F,.c (.slice (yw3 8 0).1 (dl (y)) (yw3 8 0).2),.c (pv e7 4),.c (.slice (qc 3).1 (dl (oN k)) (qc 3).2),.c (.int .i64 zy),.T,.T,.T] [2,3,4,8,9,10] ⟨.o 29 4 (c7.gr g2) rfl rfl,.k (fun yy =>#[.slice (yw3 7 0).1 (dl (x)) (yw3 7 0).2,.slice (qc 3).1 (dl (oN k)) (qc 3).2]) fun yy vv hg hh=>RtW.of_c (cz_any (S3_7.gr (g4.trans hg)) ((HQ 3).gr (g2.trans hg)) hdx hdN hzx),.s (.binOp .geq 3 (.const (.int .i64 zx)) (.const (.int .i64 0)) 3) rfl fun vv hg=>by simp[go_sem,exI,zzx],.o 29 4 (c7.gr g2) rfl rfl,.k (fun yy =>#[.slice (yw3 8 0).1 (dl (y)) (yw3 8 0).2,.slice (qc 3).1 (dl (oN k)) (qc 3).2]) fun yy vv hg hh=>RtW.of_c (cz_any (S3_8.gr (g4.trans hg)) ((HQ 3).gr (g2.trans hg)) hdy hdN hzy),.s (.binOp .geq 3 (.const (.int .i64 zy)) (.const (.int .i64 0)) 3) rfl fun vv hg=>by simp[go_sem,exI,zzy],⟨⟩⟩ fun yw8 v5 hg h8=>?_;simp only[fzw];clear h8;replace g2:=g2.trans hg;replace g3:=g3.trans hg;replace g4:=g4.trans hg;clear hg
 go_upto_region 9 with fail
 refine wp_wS [.c (.int .i64 2002),.c (.int .i64 2002),.T,.T,.c (.agg (pnt 0 0 false)),.c (.agg (pnt 0 0 false)),.T,.T,.T,.T,.T,.T] [1,4,6,9] ⟨.y (num_any _),.g 27 0 (V2_8.gr g3) rfl,.s (.binOp .eql 27 (.const (.agg (pnt 0 0 false))) (.const (.agg (pnt 0 0 false))) 27) rfl fun vv hg=>by simp[go_sem,exI,eqPn,eqN_self],.z HAW.out,⟨⟩⟩ fun yw9 v6 hg h9=>?_;simp only[fzw];clear h9;replace g2:=g2.trans hg;replace g3:=g3.trans hg;replace g4:=g4.trans hg;clear hg;replace G:=G.trans g2;replace c0:=c0.gr g2;replace c1:=c1.gr g2;replace c2:=c2.gr g2;replace c7:=c7.gr g2;replace HQ:=fun k=>(HQ k).gr g2;replace V2_8:=V2_8.gr g3;replace V3_6:=V3_6.gr g4;replace S3_5:=S3_5.gr g4;replace T3_5:=T3_5.gr g4;replace S3_7:=S3_7.gr g4;replace S3_8:=S3_8.gr g4;clear g2 g3 g4
 go_wp2_with fail
 go_ret
 exact⟨rfl,G⟩
theorem lsduals_4{k:Nat}(h1:1≤k)(h2:k≤15){x y:Nat}(hx:x<M)(hy:y<M){Q:Q3}(lQ:Q.1<M∧Q.2.1<M)(oQ:OnQ k Q)(lx:x<oN k)(ly:y<oN k)(w:World):Cg 3 #[.int .i64 (k:Int),.agg (nw 9 x),.agg (nw 9 y),.agg (pnt Q.1 Q.2.1 Q.2.2)] w (.bool true):=by
 have HGR:Hid (∀w,Calls prog 7 #[.int .i64 (k:Int)] w (GetQ k w)):=fun w=>getq_yes k h1 h2 w;have HAW:Hid (∀w,Cg 12 #[] w (.bool true)):=fun w=>awake20_any w
 have hdN:dl (oN k)≤400:=by have:=oN_dl k;omega
 obtain⟨zx,hzx⟩:=exl (cmpZ x (oN k))
 have hdx:dl x≤400:=by have:=dl_M x hx;omega
 have zzx:¬0≤zx:=by rw[←hzx];unfold cmpZ;rw[if_pos lx];decide
 obtain⟨zy,hzy⟩:=exl (cmpZ y (oN k))
 have hdy:dl y≤400:=by have:=dl_M y hy;omega
 have zzy:¬0≤zy:=by rw[←hzy];unfold cmpZ;rw[if_pos ly];decide
 obtain⟨A,hA⟩:=exl (mlQ k x (gQ k));have oA:OnQ k A:=hA▸mlQ_on h1 h2 _ (gQ_on h1 h2);obtain⟨B,hB⟩:=exl (mlQ k y Q);have oB:OnQ k B:=hB▸mlQ_on h1 h2 _ oQ;obtain⟨R,hR⟩:=exl (plQ k A B)
 have hT:twQ k Q x y=R:=by rw[twQ,hA,hB,hR]
 go_enter func3,ntmps3
 go_upto_region 1 with fail
 refine gen_w (fun v=>Hid (Gr w v∧Vr v (w.heap.size) (nw 9 x)∧Vr v (w.heap.size+1) (nw 9 y)∧Vr v (w.heap.size+1+1) (pnt Q.1 Q.2.1 Q.2.2))) ⟨grA,vrA,vrA,vrA⟩ ?_;intro u0 HV
 go_upto_region 2 with (go_at_call 7;refine(HGR.out _).mono ?_;rintro e WB ⟨qc,rfl,HQ,GB⟩)
 obtain⟨e7,he7⟩:=exl (WB.heap.size);simp only[he7]
 refine gen_w (fun v=>Gr w v∧Vr v (w.heap.size) (nw 9 x)∧Vr v (w.heap.size+1) (nw 9 y)∧Vr v (w.heap.size+1+1) (pnt Q.1 Q.2.1 Q.2.2)∧Vr v e7 (crA (k:Int) (nN k) qc)∧∀j,Sl v (qc j).1 (nN k j)) ?_ ?_
 ·subst he7;obtain⟨G,c0,c1,c2⟩:=HV.out;have g1:Gr WB (WB.alloc (.cells (crA (k:Int) (nN k) qc) 31)):=(Gr.refl _).alloc _;exact⟨(G.trans GB).trans g1,(c0.gr GB).gr g1,(c1.gr GB).gr g1,(c2.gr GB).gr g1,Vr.new _ _ _,fun j=>(HQ j).gr g1⟩
 clear he7 GB HGR HV HQ;rintro v0 ⟨G,c0,c1,c2,c7,HQ⟩;refine wp_v false [.c (.int .i64 (k:Int)),.N x,.N y,.c (.agg (pnt Q.1 Q.2.1 Q.2.2)),.c (.tuple #[.agg (pnt R.1 R.2.1 R.2.2),.int .i64 0]),.c (.tuple #[.agg (pnt R.1 R.2.1 R.2.2),.int .i64 0]),.c (.agg (pnt R.1 R.2.1 R.2.2)),.O,.a,.u,.O] [1,2,3,4] [⟨8,9,27,pnt 0 0 false,fun _=>pnt R.1 R.2.1 R.2.2⟩] ⟨.g 25 0 c0 rfl,.g 25 0 c1 rfl,.g 27 0 c2 rfl,.z (dmul_yes h1 h2 (Q:=Q) oQ (x:=x) (y:=y) lx ly (R:=R) hT),⟨⟩⟩ ⟨.k zPnt (.t rfl),⟨⟩⟩ fun yw2 v1 hg h2 hV2=>?_;simp only[fzw,Kw.a];obtain⟨⟨N2_8,V2_8⟩,-⟩:(v0.heap.size≤(yw2 8 0).2∧Vr v1 (yw2 8 0).2 (pnt R.1 R.2.1 R.2.2))∧True:=hV2;clear h2;have g2:=hg;clear hg
 go_upto_region 3 with fail
 refine wp_v true [.N x,.n (x),.N y,.n (y),.c (.agg (pnt Q.1 Q.2.1 Q.2.2)),.pt (Q.1) (Q.2.1) Q.2.2,.a,.n (x),.n (y),.u] [0,1,2,3,4,5,7,8] [⟨6,9,39,ptA none 0 0 none 0 0 false,fun yy=>ptA (yy 5 0).1 (Q.1) (yy 5 0).2 (yy 5 1).1 (Q.2.1) (yy 5 1).2 Q.2.2⟩] ⟨.g 25 0 (c0.gr g2) rfl,.k _ fun yy vv hg hh=>RtW.of_n (fm_any hx),.g 25 0 (c1.gr g2) rfl,.k _ fun yy vv hg hh=>RtW.of_n (fm_any hy),.g 27 0 (c2.gr g2) rfl,.k _ fun yy vv hg hh=>RtW.of_pt (rin_any _ _ _ lQ.1 lQ.2 _),.m 1,.m 3,⟨⟩⟩ ⟨.mk (fun _ _ h=>Value.agg.inj (h 5 rfl)) (fun _ v b H F=>by dsimp only at H ⊢;simp[go_sem,exI,H,F]) zPt ⟨fkc,fkn bPt,fkc,fkn bPt,fkc,fkp bPt,fka,fkn bPt,fkn bPt,fku,trivial⟩,⟨⟩⟩ fun yw3 v2 hg h3 hV3=>?_;simp only[fzw,Kw.a];obtain⟨S3_5,T3_5⟩:Sl v2 (yw3 5 0).1 (Q.1)∧Sl v2 (yw3 5 1).1 (Q.2.1):=h3 5;have S3_7:Sl v2 (yw3 7 0).1 (x):=h3 7;have S3_8:Sl v2 (yw3 8 0).1 (y):=h3 8;obtain⟨⟨N3_6,V3_6⟩,-⟩:(v1.heap.size≤(yw3 6 0).2∧Vr v2 (yw3 6 0).2 (ptA (yw3 5 0).1 (Q.1) (yw3 5 0).2 (yw3 5 1).1 (Q.2.1) (yw3 5 1).2 Q.2.2))∧True:=hV3;clear h3;replace g2:=g2.trans hg;have g3:=hg;clear hg
 go_upto_region 4 with fail
 refine wp_wS [.T,.F,.F] [] ⟨⟩ fun yw4 v3 hg h4=>?_;simp only[fzw];clear h4;replace g2:=g2.trans hg;replace g3:=g3.trans hg;have g4:=hg;clear hg
 go_upto_region 6 with fail
 refine wp_wS [.c (.agg (crA (k:Int) (nN k) qc)),.c (.agg (ptA (yw3 5 0).1 (Q.1) (yw3 5 0).2 (yw3 5 1).1 (Q.2.1) (yw3 5 1).2 Q.2.2)),.T,.F,.F] [0,1,2] ⟨.g 31 0 (c7.gr g2) rfl,.g 39 0 (V3_6.gr g4) rfl,.k (fun yy =>#[.agg (crA (k:Int) (nN k) qc),.agg (ptA (yw3 5 0).1 (Q.1) (yw3 5 0).2 (yw3 5 1).1 (Q.2.1) (yw3 5 1).2 Q.2.2)]) fun yy vv hg hh=>RtW.of_c (ron_is h1 h2 lQ oQ qc (fun j=>(HQ j).gr (g2.trans hg)) (S3_5.gr (g4.trans hg)) (T3_5.gr (g4.trans hg))),⟨⟩⟩ fun yw6 v4 hg h6=>?_;simp only[fzw];clear h6;replace g2:=g2.trans hg;replace g3:=g3.trans hg;replace g4:=g4.trans hg;clear hg
 go_upto_region 8 with fail
 refine wp_wS [.c (.slice (yw3 7 0).1 (dl (x)) (yw3 7 0).2),.c (pv e7 4),.c (.slice (qc 3).1 (dl (oN k)) (qc 3).2),.c (.int .i64 zx),.F,.F,.c (.slice (yw3 8 0).1 (dl (y)) (yw3 8 0).2),.c (pv e7 4),.c (.slice (qc 3).1 (dl (oN k)) (qc 3).2),.c (.int .i64 zy),.F,.F,.F] [2,3,4,8,9,10] ⟨.o 29 4 (c7.gr g2) rfl rfl,.k (fun yy =>#[.slice (yw3 7 0).1 (dl (x)) (yw3 7 0).2,.slice (qc 3).1 (dl (oN k)) (qc 3).2]) fun yy vv hg hh=>RtW.of_c (cz_any (S3_7.gr (g4.trans hg)) ((HQ 3).gr (g2.trans hg)) hdx hdN hzx),.s (.binOp .geq 3 (.const (.int .i64 zx)) (.const (.int .i64 0)) 3) rfl fun vv hg=>by simp[go_sem,exI,zzx],.o 29 4 (c7.gr g2) rfl rfl,.k (fun yy =>#[.slice (yw3 8 0).1 (dl (y)) (yw3 8 0).2,.slice (qc 3).1 (dl (oN k)) (qc 3).2]) fun yy vv hg hh=>RtW.of_c (cz_any (S3_8.gr (g4.trans hg)) ((HQ 3).gr (g2.trans hg)) hdy hdN hzy),.s (.binOp .geq 3 (.const (.int .i64 zy)) (.const (.int .i64 0)) 3) rfl fun vv hg=>by simp[go_sem,exI,zzy],⟨⟩⟩ fun yw8 v5 hg h8=>?_;simp only[fzw];clear h8;replace g2:=g2.trans hg;replace g3:=g3.trans hg;replace g4:=g4.trans hg;clear hg
 go_upto_region 10 with fail
 refine wp_v true [.c (.agg (crA (k:Int) (nN k) qc)),.c (.agg (crA (k:Int) (nN k) qc)),.c (.slice (yw3 7 0).1 (dl (x)) (yw3 7 0).2),.c (.agg (crA (k:Int) (nN k) qc)),.pt (xN k) (yN k) false,.pt (A.1) (A.2.1) A.2.2,.c (.agg (crA (k:Int) (nN k) qc)),.c (.slice (yw3 8 0).1 (dl (y)) (yw3 8 0).2),.c (.agg (ptA (yw3 5 0).1 (Q.1) (yw3 5 0).2 (yw3 5 1).1 (Q.2.1) (yw3 5 1).2 Q.2.2)),.pt (B.1) (B.2.1) B.2.2,.pt (R.1) (R.2.1) R.2.2,.a,.u] [0,1,3,4,5,6,8,9,10] [⟨11,12,39,ptA none 0 0 none 0 0 false,fun yy=>ptA (yy 10 0).1 (R.1) (yy 10 0).2 (yy 10 1).1 (R.2.1) (yy 10 1).2 R.2.2⟩] ⟨.g 31 0 (c7.gr g2) rfl,.g 31 0 (c7.gr g2) rfl,.g 31 0 (c7.gr g2) rfl,.k _ fun yy vv hg hh=>RtW.of_pt (rg_any qc _ (fun j=>(HQ j).gr (g2.trans hg))),.k (fun yy =>#[.agg (crA (k:Int) (nN k) qc),.slice (yw3 7 0).1 (dl (x)) (yw3 7 0).2,.agg (ptA (yy 4 0).1 (xN k) (yy 4 0).2 (yy 4 1).1 (yN k) (yy 4 1).2 false)]) fun yy vv hg hh=>RtW.of_pt (hA▸rtimesQ k h1 h2 qc (gQ_on h1 h2) hdx (fun j=>(HQ j).gr (g2.trans hg)) (S3_7.gr (g4.trans hg)) (hh 4 rfl).1 (hh 4 rfl).2),.g 31 0 (c7.gr g2) rfl,.g 39 0 (V3_6.gr g4) rfl,.k (fun yy =>#[.agg (crA (k:Int) (nN k) qc),.slice (yw3 8 0).1 (dl (y)) (yw3 8 0).2,.agg (ptA (yw3 5 0).1 (Q.1) (yw3 5 0).2 (yw3 5 1).1 (Q.2.1) (yw3 5 1).2 Q.2.2)]) fun yy vv hg hh=>RtW.of_pt (hB▸rtimesQ k h1 h2 qc oQ hdy (fun j=>(HQ j).gr (g2.trans hg)) (S3_8.gr (g4.trans hg)) (S3_5.gr (g4.trans hg)) (T3_5.gr (g4.trans hg))),.k (fun yy =>#[.agg (crA (k:Int) (nN k) qc),.agg (ptA (yy 5 0).1 (A.1) (yy 5 0).2 (yy 5 1).1 (A.2.1) (yy 5 1).2 A.2.2),.agg (ptA (yy 9 0).1 (B.1) (yy 9 0).2 (yy 9 1).1 (B.2.1) (yy 9 1).2 B.2.2)]) fun yy vv hg hh=>RtW.of_pt (hR▸rplusQ k h1 h2 qc oA oB (fun j=>(HQ j).gr (g2.trans hg)) (hh 5 rfl).1 (hh 5 rfl).2 (hh 9 rfl).1 (hh 9 rfl).2),⟨⟩⟩ ⟨.mk (fun _ _ h=>Value.agg.inj (h 10 rfl)) (fun _ v b H F=>by dsimp only at H ⊢;simp[go_sem,exI,H,F]) zPt ⟨fkc,fkc,fkc,fkc,fkp bPt,fkp bPt,fkc,fkc,fkc,fkp bPt,fkp bPt,fka,fku,trivial⟩,⟨⟩⟩ fun yw10 v6 hg h10 hV10=>?_;simp only[fzw,Kw.a];obtain⟨S10_10,T10_10⟩:Sl v6 (yw10 10 0).1 (R.1)∧Sl v6 (yw10 10 1).1 (R.2.1):=h10 10;obtain⟨⟨N10_11,V10_11⟩,-⟩:(v5.heap.size≤(yw10 11 0).2∧Vr v6 (yw10 11 0).2 (ptA (yw10 10 0).1 (R.1) (yw10 10 0).2 (yw10 10 1).1 (R.2.1) (yw10 10 1).2 R.2.2))∧True:=hV10;clear h10;replace g2:=g2.trans hg;replace g3:=g3.trans hg;replace g4:=g4.trans hg;clear hg
 go_upto_region 11 with fail
 refine wp_w [.O,.O,.T,.T,.c (.agg (pnt R.1 R.2.1 R.2.2)),.c (.agg (ptA (yw10 10 0).1 (R.1) (yw10 10 0).2 (yw10 10 1).1 (R.2.1) (yw10 10 1).2 R.2.2)),.c (.agg (pnt R.1 R.2.1 R.2.2)),.T,.T,.T,.T,.T,.T] [1,4,5,6,7,10] ⟨.y (num_any _),.g 27 0 (V2_8.gr g3) rfl,.g 39 0 V10_11 rfl,.k (fun yy =>#[.agg (ptA (yw10 10 0).1 (R.1) (yw10 10 0).2 (yw10 10 1).1 (R.2.1) (yw10 10 1).2 R.2.2)]) fun yy vv hg hh=>RtW.of_c (Rt.c (rout_any _ _ _ _ _ _ _ _ (S10_10.gr hg) (T10_10.gr hg))),.s (.binOp .eql 27 (.const (.agg (pnt R.1 R.2.1 R.2.2))) (.const (.agg (pnt R.1 R.2.1 R.2.2))) 27) rfl fun vv hg=>by simp[go_sem,exI,eqPn,eqN_self],.z HAW.out,⟨⟩⟩ fun yw11 v7 hg h11=>?_;simp only[fzw];clear h11;replace g2:=g2.trans hg;replace g3:=g3.trans hg;replace g4:=g4.trans hg;have g11:=hg;clear hg;replace G:=G.trans g2;replace c0:=c0.gr g2;replace c1:=c1.gr g2;replace c2:=c2.gr g2;replace c7:=c7.gr g2;replace HQ:=fun k=>(HQ k).gr g2;replace V2_8:=V2_8.gr g3;replace V3_6:=V3_6.gr g4;replace S3_5:=S3_5.gr g4;replace T3_5:=T3_5.gr g4;replace S3_7:=S3_7.gr g4;replace S3_8:=S3_8.gr g4;replace V10_11:=V10_11.gr g11;replace S10_10:=S10_10.gr g11;replace T10_10:=T10_10.gr g11;clear g11 g2 g3 g4
 go_wp2_with fail
 go_ret
 exact⟨rfl,G⟩
theorem lsduals_any(id:Int){x y:Nat}(hx:x<M)(hy:y<M){Q:Q3}(lQ:Q.1<M∧Q.2.1<M)(w:World):Cg 3 #[.int .i64 id,.agg (nw 9 x),.agg (nw 9 y),.agg (pnt Q.1 Q.2.1 Q.2.2)] w (.bool true):=by
 by_cases h:1≤id∧id≤15
 ·obtain⟨k,rfl⟩:∃k:Nat,id=(k:Int):=⟨id.toNat,by omega⟩
  have h1:1≤k:=by omega
  have h2:k≤15:=by omega
  by_cases oQ:onB k Q.1 Q.2.1 Q.2.2=true
  ·by_cases lx:x<oN k
   ·by_cases ly:y<oN k
    ·exact lsduals_4 h1 h2 hx hy lQ oQ lx ly w
    ·exact lsduals_3 h1 h2 hx hy lQ oQ lx (Nat.le_of_not_lt ly) w
   ·exact lsduals_2 h1 h2 hx hy lQ oQ (Nat.le_of_not_lt lx) w
  ·exact lsduals_1 h1 h2 hx hy lQ (Bool.eq_false_iff.2 oQ) w
 ·exact lsduals_0 id (by omega) hx hy lQ w
end
end
end Go.Proofs.YtghidgcekieljaaGreat