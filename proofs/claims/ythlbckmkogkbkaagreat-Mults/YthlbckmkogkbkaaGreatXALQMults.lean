import Derived.Test.YthlbckmkogkbkaaGreatXAQF
namespace Go.Proofs.YthlbckmkogkbkaaGreat
open Go.RowKit
set_option maxRecDepth 100000
set_option maxHeartbeats 8000000
section
attribute [local go_sem ↓] uz1
attribute [local go_sem] uz2
section
attribute [local go_sem] uz8
attribute [local go_sem ↓] uz17 Go.wp_at_zero Go.wp_at_succ
attribute [local go_sem] uz18
theorem lqmults_0 (id:Int) (h:id<1∨15<id) {t:Nat} {P:Q3} (w:World):Cg 3 #[.int .i64 id,.agg (nw 9 t),.agg (pnt P.1 P.2.1 P.2.2)] w (.bool true):=by
 have HGR:Hid (∀ w,Cg 9 #[.int .i64 id] w (.tuple #[.agg #[.int .i64 0,.slice none 0 0,.slice none 0 0,.slice none 0 0,.slice none 0 0,.slice none 0 0,.slice none 0 0],.bool false])):=fun w=>get_no id h w
 have HAW:Hid (∀ w,Cg 18 #[] w (.bool true)):=fun w=>awake18_any w
 go_enter Tryz.func3,Tryz.ntmps3
 go_upto_region 1 with fail
 refine gen_w (fun v=>Hid (Gr w v∧Vr v (w.heap.size) (nw 9 t)∧Vr v (w.heap.size+1) (pnt P.1 P.2.1 P.2.2))) ⟨grA,vrA,vrA⟩ ?_
 intro u0 HV
 go_upto_region 2 with (go_at_call 9; refine (HGR.out _).mono ?_; rintro e WB ⟨rfl,GB⟩)
 obtain ⟨e7,he7⟩:=exl (WB.heap.size)
 simp only [he7]
 refine gen_w (fun v=>Gr w v∧Vr v (w.heap.size) (nw 9 t)∧Vr v (w.heap.size+1) (pnt P.1 P.2.1 P.2.2)) ?_ ?_
 ·subst he7
  obtain ⟨G,c0,c1⟩:=HV.out
  have g1:Gr WB (WB.alloc (.cells (#[.int .i64 0,.slice none 0 0,.slice none 0 0,.slice none 0 0,.slice none 0 0,.slice none 0 0,.slice none 0 0]) 31)):=(Gr.refl _).alloc _
  exact ⟨(G.trans GB).trans g1,(c0.gr GB).gr g1,(c1.gr GB).gr g1⟩
 clear he7 GB HGR HV
 rintro v0 ⟨G,c0,c1⟩
 go_upto_region 3 with (go_at_call 10; refine (new_any _).mono ?_; rintro e w' ⟨rfl,rfl⟩)
 refine gen_w (fun v=>Gr v0 v∧Tr v (v0.heap.size) (.slice none 0 0) []) ⟨grA,Tr.new _⟩ ?_
 rintro vr ⟨gU,TR0⟩
 have hu:v0.heap.size≤v0.heap.size:=Nat.le_refl _
 refine wp_v false [.c (pv (v0.heap.size) 0),.c (.int .i64 id),.c (.agg (nw 9 t)),.c (.agg (pnt P.1 P.2.1 P.2.2)),.c (.tuple #[.agg (pnt 0 0 false),.int .i64 1800]),.c (.tuple #[.agg (pnt 0 0 false),.int .i64 1800]),.c (.agg (pnt 0 0 false)),.c (.int .i64 1800),.a,.u,.c (.int .i64 1800)] [2,3,4] [⟨8,9,27,pnt 0 0 false,fun _=>pnt 0 0 false⟩] ?hs1 ?hv1 ?hf1
 case hs1=>
  exact .cons (.g 25 0 (c0.gr gU) rfl)<|.cons (.g 27 0 (c1.gr gU) rfl)<|.cons (.k _ fun yy vv hg hh=>RtW.of_c (Rt.c (mmul_no id h (P:=P) (d:=t) (.pointer (some ⟨v0.heap.size,0,none⟩)) _))) .nil
 case hv1=>
  refine .cons (.mk (fun _ _ _=>rfl) (fun _ v b H F=>by dsimp only at H ⊢; simp [go_sem,exI,H,F]) zPnt ⟨fkc,fkc,fkc,fkc,fkc,fkc,fkc,fkc,fka,fku,fkc,trivial⟩) .nil
 intro yw3 v1 hg h3 hV3
 simp only [FW,putFrom,Act.put,lqA,lqB,lqC,wvals,kW,lqD,lqE,Kw.c,pv,Kw.a,Kw.u]
 obtain ⟨⟨N3_8,V3_8⟩, -⟩:(vr.heap.size≤(yw3 8 0).2∧Vr v1 (yw3 8 0).2 (pnt 0 0 false))∧True:=hV3
 clear h3
 replace gU:=gU.trans hg
 have g3:=hg
 clear hg
 go_upto_region 4 with fail
 refine wp_v false [.c (.int .i64 id),.c (.agg (nw 9 t)),.c (.agg (pnt P.1 P.2.1 P.2.2)),.c (.tuple #[.agg (pnt 0 0 false),.int .i64 1800]),.c (.tuple #[.agg (pnt 0 0 false),.int .i64 1800]),.c (.agg (pnt 0 0 false)),.c (.int .i64 1800),.a,.u,.c (.int .i64 1800)] [1,2,3] [⟨7,8,27,pnt 0 0 false,fun _=>pnt 0 0 false⟩] ?hs2 ?hv2 ?hf2
 case hs2=>
  exact .cons (.g 25 0 (c0.gr gU) rfl)<|.cons (.g 27 0 (c1.gr gU) rfl)<|.cons (.k _ fun yy vv hg hh=>RtW.of_c (Rt.c (mmul_no id h (P:=P) (d:=t) (Value.pointer none) _))) .nil
 case hv2=>
  refine .cons (.mk (fun _ _ _=>rfl) (fun _ v b H F=>by dsimp only at H ⊢; simp [go_sem,exI,H,F]) zPnt ⟨fkc,fkc,fkc,fkc,fkc,fkc,fkc,fka,fku,fkc,trivial⟩) .nil
 intro yw4 v2 hg h4 hV4
 simp only [FW,putFrom,Act.put,lqA,lqB,lqC,wvals,kW,lqD,lqE,Kw.c,Kw.a,Kw.u]
 obtain ⟨⟨N4_7,V4_7⟩, -⟩:(v1.heap.size≤(yw4 7 0).2∧Vr v2 (yw4 7 0).2 (pnt 0 0 false))∧True:=hV4
 clear h4
 replace g3:=g3.trans hg
 replace gU:=gU.trans hg
 have g4:=hg
 clear hg
 go_upto_region 5 with fail
 refine wp_wS [.c (.int .i64 0)] [] ?hs3 ?hf3
 case hs3=>exact .nil
 intro yw5 v3 hg h5
 simp only [FW,putFrom,Act.put,lqA,lqB,lqC,wvals,kW,lqD,Kw.c]
 clear h5
 replace g3:=g3.trans hg
 replace g4:=g4.trans hg
 replace gU:=gU.trans hg
 have g5:=hg
 clear hg
 go_upto_region 6 with fail
 refine wp_wS [.c (.bool false),.c (.bool true),.c (.bool true)] [] ?hs4 ?hf4
 case hs4=>exact .nil
 intro yw6 v4 hg h6
 simp only [FW,putFrom,Act.put,lqA,lqB,lqC,wvals,kW,lqD,lqE,Kw.c]
 clear h6
 replace g3:=g3.trans hg
 replace g4:=g4.trans hg
 replace g5:=g5.trans hg
 replace gU:=gU.trans hg
 clear hg
 go_upto_region 7 with fail
 refine wp_wS [.c (.int .i64 1800)] [] ?hs5 ?hf5
 case hs5=>exact .nil
 intro yw7 v5 hg h7
 simp only [FW,putFrom,Act.put,lqA,lqB,lqC,wvals,kW,lqD,Kw.c]
 clear h7
 replace g3:=g3.trans hg
 replace g4:=g4.trans hg
 replace g5:=g5.trans hg
 replace gU:=gU.trans hg
 clear hg
 go_upto_region 12 with fail
 refine wp_wS [.c (.int .i64 1800),.c (.int .i64 1800),.c (.int .i64 1800),.c (.bool false),.c (.bool false),.c (.int .i64 1800),.c (.int .i64 1800),.c (.int .i64 1800),.c (.bool false),.c (.bool false),.c (.bool false),.c (.agg (pnt 0 0 false)),.c (.agg (pnt 0 0 false)),.c (.bool false),.c (.bool false)] [1,6,11,12,13] ?hs6 ?hf6
 case hs6=>
  exact .cons (.k _ fun yy vv hg hh=>RtW.of_c (Rt.same (num_any _ _)))<|.cons (.k _ fun yy vv hg hh=>RtW.of_c (Rt.same (num_any _ _)))<|.cons (.g 27 0 (V3_8.gr g4) rfl)<|.cons (.g 27 0 (V4_7.gr g5) rfl)<|.cons (.s (.binOp .neq 27 (.const (.agg (pnt 0 0 false))) (.const (.agg (pnt 0 0 false))) 27) rfl fun vv hg=>by simp [go_sem,exI,nePn,eqN_self]) .nil
 intro yw12 v6 hg h12
 simp only [FW,putFrom,Act.put,lqA,lqB,lqC,wvals,kW,lqD,lqE,Kw.c]
 clear h12
 replace g3:=g3.trans hg
 replace g4:=g4.trans hg
 replace g5:=g5.trans hg
 replace gU:=gU.trans hg
 clear hg
 go_upto_region 14 with fail
 refine wp_wS [.c (.int .i64 1800),.c (.bool true)] [] ?hs7 ?hf7
 case hs7=>exact .nil
 intro yw14 v7 hg h14
 simp only [FW,putFrom,Act.put,lqA,lqB,lqC,wvals,kW,lqD,lqE,Kw.c]
 clear h14
 replace g3:=g3.trans hg
 replace g4:=g4.trans hg
 replace g5:=g5.trans hg
 replace gU:=gU.trans hg
 clear hg
 go_upto_region 15 with fail
 refine wp_wS [.c (.agg (pnt 0 0 false)),.c (.agg (pnt 0 0 false)),.c (.bool true),.c (.bool true),.c (pv (v0.heap.size) 0),.c (.int .i64 0),.c (.bool true),.c (.bool true),.c (.bool true),.c (.bool true),.c (.bool true),.c (.bool true)] [0,2,5,9] ?hs8 ?hf8
 case hs8=>
  exact .cons (.g 27 0 (V3_8.gr g4) rfl)<|.cons (.s (.binOp .eql 27 (.const (.agg (pnt 0 0 false))) (.const (.agg (pnt 0 0 false))) 27) rfl fun vv hg=>by simp [go_sem,exI,eqPn,eqN_self])<|.cons (.k _ fun yy vv hg hh=>RtW.of_c (Rt.same (lenT (TR0.gr (g3.trans hg)) rfl)))<|.cons (.k _ fun yy vv hg hh=>RtW.of_c (Rt.c (HAW.out _))) .nil
 intro yw15 v8 hg h15
 simp only [FW,putFrom,Act.put,lqA,lqB,lqC,wvals,kW,lqD,lqE,Kw.c,pv]
 clear h15
 replace g3:=g3.trans hg
 replace g4:=g4.trans hg
 replace g5:=g5.trans hg
 replace gU:=gU.trans hg
 clear hg
 replace G:=G.trans gU
 replace c0:=c0.gr gU
 replace c1:=c1.gr gU
 replace TR0:=TR0.gr g3
 replace V3_8:=V3_8.gr g4
 replace V4_7:=V4_7.gr g5
 clear g3 g4 g5 gU
 go_wp2_with fail
 go_ret
 exact ⟨rfl,G⟩
theorem lqmults_1 {k:Nat} (h1:1≤k) (h2:k≤15) {t:Nat} {P:Q3} (lP:P.1<M∧P.2.1<M) (oP:onB k P.1 P.2.1 P.2.2=false) (w:World):Cg 3 #[.int .i64 (k:Int),.agg (nw 9 t),.agg (pnt P.1 P.2.1 P.2.2)] w (.bool true):=by
 have HGR:Hid (∀ w,Calls Tryz.prog 9 #[.int .i64 (k:Int)] w (GetQ k w)):=fun w=>getq_yes k h1 h2 w
 have HAW:Hid (∀ w,Cg 18 #[] w (.bool true)):=fun w=>awake18_any w
 go_enter Tryz.func3,Tryz.ntmps3
 go_upto_region 1 with fail
 refine gen_w (fun v=>Hid (Gr w v∧Vr v (w.heap.size) (nw 9 t)∧Vr v (w.heap.size+1) (pnt P.1 P.2.1 P.2.2))) ⟨grA,vrA,vrA⟩ ?_
 intro u0 HV
 go_upto_region 2 with (go_at_call 9; refine (HGR.out _).mono ?_; rintro e WB ⟨qc,rfl,HQ,GB⟩)
 obtain ⟨e7,he7⟩:=exl (WB.heap.size)
 simp only [he7]
 refine gen_w (fun v=>Gr w v∧Vr v (w.heap.size) (nw 9 t)∧Vr v (w.heap.size+1) (pnt P.1 P.2.1 P.2.2)∧Vr v e7 (crA (k:Int) (nN k) qc)∧∀ j,Sl v (qc j).1 (nN k j)) ?_ ?_
 ·subst he7
  obtain ⟨G,c0,c1⟩:=HV.out
  have g1:Gr WB (WB.alloc (.cells (crA (k:Int) (nN k) qc) 31)):=(Gr.refl _).alloc _
  exact ⟨(G.trans GB).trans g1,(c0.gr GB).gr g1,(c1.gr GB).gr g1,Vr.new _ _ _,fun j=>(HQ j).gr g1⟩
 clear he7 GB HGR HV HQ
 rintro v0 ⟨G,c0,c1,c7,HQ⟩
 go_upto_region 3 with (go_at_call 10; refine (new_any _).mono ?_; rintro e w' ⟨rfl,rfl⟩)
 refine gen_w (fun v=>Gr v0 v∧Tr v (v0.heap.size) (.slice none 0 0) []) ⟨grA,Tr.new _⟩ ?_
 rintro vr ⟨gU,TR0⟩
 have hu:v0.heap.size≤v0.heap.size:=Nat.le_refl _
 refine wp_v false [.c (pv (v0.heap.size) 0),.c (.int .i64 (k:Int)),.c (.agg (nw 9 t)),.c (.agg (pnt P.1 P.2.1 P.2.2)),.c (.tuple #[.agg (pnt 0 0 false),.int .i64 1801]),.c (.tuple #[.agg (pnt 0 0 false),.int .i64 1801]),.c (.agg (pnt 0 0 false)),.c (.int .i64 1801),.a,.u,.c (.int .i64 1801)] [2,3,4] [⟨8,9,27,pnt 0 0 false,fun _=>pnt 0 0 false⟩] ?hs9 ?hv9 ?hf9
 case hs9=>
  exact .cons (.g 25 0 (c0.gr gU) rfl)<|.cons (.g 27 0 (c1.gr gU) rfl)<|.cons (.k _ fun yy vv hg hh=>RtW.of_c (Rt.c (mmul_off h1 h2 (P:=P) lP oP (d:=t) (.pointer (some ⟨v0.heap.size,0,none⟩)) _))) .nil
 case hv9=>
  refine .cons (.mk (fun _ _ _=>rfl) (fun _ v b H F=>by dsimp only at H ⊢; simp [go_sem,exI,H,F]) zPnt ⟨fkc,fkc,fkc,fkc,fkc,fkc,fkc,fkc,fka,fku,fkc,trivial⟩) .nil
 intro yw3 v1 hg h3 hV3
 simp only [FW,putFrom,Act.put,lqA,lqB,lqC,wvals,kW,lqD,lqE,Kw.c,pv,Kw.a,Kw.u]
 obtain ⟨⟨N3_8,V3_8⟩, -⟩:(vr.heap.size≤(yw3 8 0).2∧Vr v1 (yw3 8 0).2 (pnt 0 0 false))∧True:=hV3
 clear h3
 replace gU:=gU.trans hg
 have g3:=hg
 clear hg
 go_upto_region 4 with fail
 refine wp_v false [.c (.int .i64 (k:Int)),.c (.agg (nw 9 t)),.c (.agg (pnt P.1 P.2.1 P.2.2)),.c (.tuple #[.agg (pnt 0 0 false),.int .i64 1801]),.c (.tuple #[.agg (pnt 0 0 false),.int .i64 1801]),.c (.agg (pnt 0 0 false)),.c (.int .i64 1801),.a,.u,.c (.int .i64 1801)] [1,2,3] [⟨7,8,27,pnt 0 0 false,fun _=>pnt 0 0 false⟩] ?hs10 ?hv10 ?hf10
 case hs10=>
  exact .cons (.g 25 0 (c0.gr gU) rfl)<|.cons (.g 27 0 (c1.gr gU) rfl)<|.cons (.k _ fun yy vv hg hh=>RtW.of_c (Rt.c (mmul_off h1 h2 (P:=P) lP oP (d:=t) (Value.pointer none) _))) .nil
 case hv10=>
  refine .cons (.mk (fun _ _ _=>rfl) (fun _ v b H F=>by dsimp only at H ⊢; simp [go_sem,exI,H,F]) zPnt ⟨fkc,fkc,fkc,fkc,fkc,fkc,fkc,fka,fku,fkc,trivial⟩) .nil
 intro yw4 v2 hg h4 hV4
 simp only [FW,putFrom,Act.put,lqA,lqB,lqC,wvals,kW,lqD,lqE,Kw.c,Kw.a,Kw.u]
 obtain ⟨⟨N4_7,V4_7⟩, -⟩:(v1.heap.size≤(yw4 7 0).2∧Vr v2 (yw4 7 0).2 (pnt 0 0 false))∧True:=hV4
 clear h4
 replace g3:=g3.trans hg
 replace gU:=gU.trans hg
 have g4:=hg
 clear hg
 go_upto_region 5 with fail
 refine wp_wS [.c (.int .i64 0)] [] ?hs11 ?hf11
 case hs11=>exact .nil
 intro yw5 v3 hg h5
 simp only [FW,putFrom,Act.put,lqA,lqB,lqC,wvals,kW,lqD,Kw.c]
 clear h5
 replace g3:=g3.trans hg
 replace g4:=g4.trans hg
 replace gU:=gU.trans hg
 have g5:=hg
 clear hg
 go_upto_region 6 with fail
 refine wp_wS [.c (.bool true),.c (.bool false),.c (.bool false)] [] ?hs12 ?hf12
 case hs12=>exact .nil
 intro yw6 v4 hg h6
 simp only [FW,putFrom,Act.put,lqA,lqB,lqC,wvals,kW,lqD,lqE,Kw.c]
 clear h6
 replace g3:=g3.trans hg
 replace g4:=g4.trans hg
 replace g5:=g5.trans hg
 replace gU:=gU.trans hg
 clear hg
 go_upto_region 8 with fail
 refine wp_w [.c (.agg (crA (k:Int) (nN k) qc)),.c (.agg (pnt P.1 P.2.1 P.2.2)),.pt (P.1) (P.2.1) P.2.2,.c (.bool false),.c (.bool true),.c (.bool true)] [0,1,2,3] ?hs13 ?hf13
 case hs13=>
  exact .cons (.g 31 0 (c7.gr gU) rfl)<|.cons (.g 27 0 (c1.gr gU) rfl)<|.cons (.k _ fun yy vv hg hh=>RtW.of_pt (rin_any _ _ _ lP.1 lP.2 _))<|.cons (.k (fun yy => #[.agg (crA (k:Int) (nN k) qc),.agg (ptA (yy 2 0).1 (P.1) (yy 2 0).2 (yy 2 1).1 (P.2.1) (yy 2 1).2 P.2.2)]) fun yy vv hg hh=>RtW.of_c (ron_is h1 h2 lP oP qc (fun j=>(HQ j).gr (gU.trans hg)) (hh 2 rfl).1 (hh 2 rfl).2)) .nil
 intro yw8 v5 hg h8
 simp only [FW,putFrom,Act.put,lqA,lqB,lqC,wvals,kW,lqD,lqE,Kw.c,Kw.pt]
 clear h8
 replace g3:=g3.trans hg
 replace g4:=g4.trans hg
 replace g5:=g5.trans hg
 replace gU:=gU.trans hg
 clear hg
 go_upto_region 9 with fail
 refine wp_wS [.c (.int .i64 1801)] [] ?hs14 ?hf14
 case hs14=>exact .nil
 intro yw9 v6 hg h9
 simp only [FW,putFrom,Act.put,lqA,lqB,lqC,wvals,kW,lqD,Kw.c]
 clear h9
 replace g3:=g3.trans hg
 replace g4:=g4.trans hg
 replace g5:=g5.trans hg
 replace gU:=gU.trans hg
 clear hg
 go_upto_region 12 with fail
 refine wp_wS [.c (.int .i64 1801),.c (.int .i64 1801),.c (.int .i64 1801),.c (.bool false),.c (.bool false),.c (.int .i64 1801),.c (.int .i64 1801),.c (.int .i64 1801),.c (.bool false),.c (.bool false),.c (.bool false),.c (.agg (pnt 0 0 false)),.c (.agg (pnt 0 0 false)),.c (.bool false),.c (.bool false)] [1,6,11,12,13] ?hs15 ?hf15
 case hs15=>
  exact .cons (.k _ fun yy vv hg hh=>RtW.of_c (Rt.same (num_any _ _)))<|.cons (.k _ fun yy vv hg hh=>RtW.of_c (Rt.same (num_any _ _)))<|.cons (.g 27 0 (V3_8.gr g4) rfl)<|.cons (.g 27 0 (V4_7.gr g5) rfl)<|.cons (.s (.binOp .neq 27 (.const (.agg (pnt 0 0 false))) (.const (.agg (pnt 0 0 false))) 27) rfl fun vv hg=>by simp [go_sem,exI,nePn,eqN_self]) .nil
 intro yw12 v7 hg h12
 simp only [FW,putFrom,Act.put,lqA,lqB,lqC,wvals,kW,lqD,lqE,Kw.c]
 clear h12
 replace g3:=g3.trans hg
 replace g4:=g4.trans hg
 replace g5:=g5.trans hg
 replace gU:=gU.trans hg
 clear hg
 go_upto_region 14 with fail
 refine wp_wS [.c (.int .i64 1801),.c (.bool true)] [] ?hs16 ?hf16
 case hs16=>exact .nil
 intro yw14 v8 hg h14
 simp only [FW,putFrom,Act.put,lqA,lqB,lqC,wvals,kW,lqD,lqE,Kw.c]
 clear h14
 replace g3:=g3.trans hg
 replace g4:=g4.trans hg
 replace g5:=g5.trans hg
 replace gU:=gU.trans hg
 clear hg
 go_upto_region 15 with fail
 refine wp_wS [.c (.agg (pnt 0 0 false)),.c (.agg (pnt 0 0 false)),.c (.bool true),.c (.bool true),.c (pv (v0.heap.size) 0),.c (.int .i64 0),.c (.bool true),.c (.bool true),.c (.bool true),.c (.bool true),.c (.bool true),.c (.bool true)] [0,2,5,9] ?hs17 ?hf17
 case hs17=>
  exact .cons (.g 27 0 (V3_8.gr g4) rfl)<|.cons (.s (.binOp .eql 27 (.const (.agg (pnt 0 0 false))) (.const (.agg (pnt 0 0 false))) 27) rfl fun vv hg=>by simp [go_sem,exI,eqPn,eqN_self])<|.cons (.k _ fun yy vv hg hh=>RtW.of_c (Rt.same (lenT (TR0.gr (g3.trans hg)) rfl)))<|.cons (.k _ fun yy vv hg hh=>RtW.of_c (Rt.c (HAW.out _))) .nil
 intro yw15 v9 hg h15
 simp only [FW,putFrom,Act.put,lqA,lqB,lqC,wvals,kW,lqD,lqE,Kw.c,pv]
 clear h15
 replace g3:=g3.trans hg
 replace g4:=g4.trans hg
 replace g5:=g5.trans hg
 replace gU:=gU.trans hg
 clear hg
 replace G:=G.trans gU
 replace c0:=c0.gr gU
 replace c1:=c1.gr gU
 replace c7:=c7.gr gU
 replace HQ:=fun k=>(HQ k).gr gU
 replace TR0:=TR0.gr g3
 replace V3_8:=V3_8.gr g4
 replace V4_7:=V4_7.gr g5
 clear g3 g4 g5 gU
 go_wp2_with fail
 go_ret
 exact ⟨rfl,G⟩
theorem lqmults_2 {k:Nat} (h1:1≤k) (h2:k≤15) {t:Nat} (ht:t<M) {P:Q3} (lP:P.1<M∧P.2.1<M) (oP:OnQ k P) (gt:oN k≤t) (w:World):Cg 3 #[.int .i64 (k:Int),.agg (nw 9 t),.agg (pnt P.1 P.2.1 P.2.2)] w (.bool true):=by
 have HGR:Hid (∀ w,Calls Tryz.prog 9 #[.int .i64 (k:Int)] w (GetQ k w)):=fun w=>getq_yes k h1 h2 w
 have HAW:Hid (∀ w,Cg 18 #[] w (.bool true)):=fun w=>awake18_any w
 obtain ⟨z,hz⟩:=exl (cmpZ t (oN k))
 have hdt:dl t≤400:=by have:=dl_M t ht; omega
 have hdN:dl (oN k)≤400:=by have:=oN_dl k; omega
 have z0:0≤z:=by rw [← hz]; unfold cmpZ; rw [if_neg (Nat.not_lt.2 gt)]; split <;> omega
 go_enter Tryz.func3,Tryz.ntmps3
 go_upto_region 1 with fail
 refine gen_w (fun v=>Hid (Gr w v∧Vr v (w.heap.size) (nw 9 t)∧Vr v (w.heap.size+1) (pnt P.1 P.2.1 P.2.2))) ⟨grA,vrA,vrA⟩ ?_
 intro u0 HV
 go_upto_region 2 with (go_at_call 9; refine (HGR.out _).mono ?_; rintro e WB ⟨qc,rfl,HQ,GB⟩)
 obtain ⟨e7,he7⟩:=exl (WB.heap.size)
 simp only [he7]
 refine gen_w (fun v=>Gr w v∧Vr v (w.heap.size) (nw 9 t)∧Vr v (w.heap.size+1) (pnt P.1 P.2.1 P.2.2)∧Vr v e7 (crA (k:Int) (nN k) qc)∧∀ j,Sl v (qc j).1 (nN k j)) ?_ ?_
 ·subst he7
  obtain ⟨G,c0,c1⟩:=HV.out
  have g1:Gr WB (WB.alloc (.cells (crA (k:Int) (nN k) qc) 31)):=(Gr.refl _).alloc _
  exact ⟨(G.trans GB).trans g1,(c0.gr GB).gr g1,(c1.gr GB).gr g1,Vr.new _ _ _,fun j=>(HQ j).gr g1⟩
 clear he7 GB HGR HV HQ
 rintro v0 ⟨G,c0,c1,c7,HQ⟩
 go_upto_region 3 with (go_at_call 10; refine (new_any _).mono ?_; rintro e w' ⟨rfl,rfl⟩)
 refine gen_w (fun v=>Gr v0 v∧Tr v (v0.heap.size) (.slice none 0 0) []) ⟨grA,Tr.new _⟩ ?_
 rintro vr ⟨gU,TR0⟩
 have hu:v0.heap.size≤v0.heap.size:=Nat.le_refl _
 refine wp_v false [.c (pv (v0.heap.size) 0),.c (.int .i64 (k:Int)),.c (.agg (nw 9 t)),.c (.agg (pnt P.1 P.2.1 P.2.2)),.c (.tuple #[.agg (pnt 0 0 false),.int .i64 1802]),.c (.tuple #[.agg (pnt 0 0 false),.int .i64 1802]),.c (.agg (pnt 0 0 false)),.c (.int .i64 1802),.a,.u,.c (.int .i64 1802)] [2,3,4] [⟨8,9,27,pnt 0 0 false,fun _=>pnt 0 0 false⟩] ?hs18 ?hv18 ?hf18
 case hs18=>
  exact .cons (.g 25 0 (c0.gr gU) rfl)<|.cons (.g 27 0 (c1.gr gU) rfl)<|.cons (.k _ fun yy vv hg hh=>RtW.of_c (Rt.c (mmul_big h1 h2 (P:=P) oP (d:=t) ht gt (.pointer (some ⟨v0.heap.size,0,none⟩)) _))) .nil
 case hv18=>
  refine .cons (.mk (fun _ _ _=>rfl) (fun _ v b H F=>by dsimp only at H ⊢; simp [go_sem,exI,H,F]) zPnt ⟨fkc,fkc,fkc,fkc,fkc,fkc,fkc,fkc,fka,fku,fkc,trivial⟩) .nil
 intro yw3 v1 hg h3 hV3
 simp only [FW,putFrom,Act.put,lqA,lqB,lqC,wvals,kW,lqD,lqE,Kw.c,pv,Kw.a,Kw.u]
 obtain ⟨⟨N3_8,V3_8⟩, -⟩:(vr.heap.size≤(yw3 8 0).2∧Vr v1 (yw3 8 0).2 (pnt 0 0 false))∧True:=hV3
 clear h3
 replace gU:=gU.trans hg
 have g3:=hg
 clear hg
 go_upto_region 4 with fail
 refine wp_v false [.c (.int .i64 (k:Int)),.c (.agg (nw 9 t)),.c (.agg (pnt P.1 P.2.1 P.2.2)),.c (.tuple #[.agg (pnt 0 0 false),.int .i64 1802]),.c (.tuple #[.agg (pnt 0 0 false),.int .i64 1802]),.c (.agg (pnt 0 0 false)),.c (.int .i64 1802),.a,.u,.c (.int .i64 1802)] [1,2,3] [⟨7,8,27,pnt 0 0 false,fun _=>pnt 0 0 false⟩] ?hs19 ?hv19 ?hf19
 case hs19=>
  exact .cons (.g 25 0 (c0.gr gU) rfl)<|.cons (.g 27 0 (c1.gr gU) rfl)<|.cons (.k _ fun yy vv hg hh=>RtW.of_c (Rt.c (mmul_big h1 h2 (P:=P) oP (d:=t) ht gt (Value.pointer none) _))) .nil
 case hv19=>
  refine .cons (.mk (fun _ _ _=>rfl) (fun _ v b H F=>by dsimp only at H ⊢; simp [go_sem,exI,H,F]) zPnt ⟨fkc,fkc,fkc,fkc,fkc,fkc,fkc,fka,fku,fkc,trivial⟩) .nil
 intro yw4 v2 hg h4 hV4
 simp only [FW,putFrom,Act.put,lqA,lqB,lqC,wvals,kW,lqD,lqE,Kw.c,Kw.a,Kw.u]
 obtain ⟨⟨N4_7,V4_7⟩, -⟩:(v1.heap.size≤(yw4 7 0).2∧Vr v2 (yw4 7 0).2 (pnt 0 0 false))∧True:=hV4
 clear h4
 replace g3:=g3.trans hg
 replace gU:=gU.trans hg
 have g4:=hg
 clear hg
 go_upto_region 5 with fail
 refine wp_wS [.c (.int .i64 0)] [] ?hs20 ?hf20
 case hs20=>exact .nil
 intro yw5 v3 hg h5
 simp only [FW,putFrom,Act.put,lqA,lqB,lqC,wvals,kW,lqD,Kw.c]
 clear h5
 replace g3:=g3.trans hg
 replace g4:=g4.trans hg
 replace gU:=gU.trans hg
 have g5:=hg
 clear hg
 go_upto_region 6 with fail
 refine wp_wS [.c (.bool true),.c (.bool false),.c (.bool false)] [] ?hs21 ?hf21
 case hs21=>exact .nil
 intro yw6 v4 hg h6
 simp only [FW,putFrom,Act.put,lqA,lqB,lqC,wvals,kW,lqD,lqE,Kw.c]
 clear h6
 replace g3:=g3.trans hg
 replace g4:=g4.trans hg
 replace g5:=g5.trans hg
 replace gU:=gU.trans hg
 clear hg
 go_upto_region 8 with fail
 refine wp_w [.c (.agg (crA (k:Int) (nN k) qc)),.c (.agg (pnt P.1 P.2.1 P.2.2)),.pt (P.1) (P.2.1) P.2.2,.c (.bool true),.c (.bool false),.c (.bool false)] [0,1,2,3] ?hs22 ?hf22
 case hs22=>
  exact .cons (.g 31 0 (c7.gr gU) rfl)<|.cons (.g 27 0 (c1.gr gU) rfl)<|.cons (.k _ fun yy vv hg hh=>RtW.of_pt (rin_any _ _ _ lP.1 lP.2 _))<|.cons (.k (fun yy => #[.agg (crA (k:Int) (nN k) qc),.agg (ptA (yy 2 0).1 (P.1) (yy 2 0).2 (yy 2 1).1 (P.2.1) (yy 2 1).2 P.2.2)]) fun yy vv hg hh=>RtW.of_c (ron_is h1 h2 lP oP qc (fun j=>(HQ j).gr (gU.trans hg)) (hh 2 rfl).1 (hh 2 rfl).2)) .nil
 intro yw8 v5 hg h8
 simp only [FW,putFrom,Act.put,lqA,lqB,lqC,wvals,kW,lqD,lqE,Kw.c,Kw.pt]
 clear h8
 replace g3:=g3.trans hg
 replace g4:=g4.trans hg
 replace g5:=g5.trans hg
 replace gU:=gU.trans hg
 clear hg
 go_upto_region 10 with fail
 refine wp_w [.c (.agg (nw 9 t)),.n (t),.c (pv e7 4),.c (.slice (qc 3).1 (dl (oN k)) (qc 3).2),.c (.int .i64 z),.c (.bool true),.c (.bool true)] [0,1,3,4,5] ?hs23 ?hf23
 case hs23=>
  exact .cons (.g 25 0 (c0.gr gU) rfl)<|.cons (.k _ fun yy vv hg hh=>RtW.of_n (fm_any ht))<|.cons (.o 29 4 (c7.gr gU) rfl rfl)<|.cons (.k (fun yy => #[.slice (yy 1 0).1 (dl (t)) (yy 1 0).2,.slice (qc 3).1 (dl (oN k)) (qc 3).2]) fun yy vv hg hh=>RtW.of_c (cz_any (hh 1 rfl) ((HQ 3).gr (gU.trans hg)) hdt hdN hz))<|.cons (.s (.binOp .geq 3 (.const (.int .i64 z)) (.const (.int .i64 0)) 3) rfl fun vv hg=>by simp [go_sem,exI,z0]) .nil
 intro yw10 v6 hg h10
 simp only [FW,putFrom,Act.put,lqA,lqB,lqC,wvals,kW,lqD,lqE,Kw.c,pv,Kw.n]
 clear h10
 replace g3:=g3.trans hg
 replace g4:=g4.trans hg
 replace g5:=g5.trans hg
 replace gU:=gU.trans hg
 clear hg
 go_upto_region 11 with fail
 refine wp_wS [.c (.int .i64 1802)] [] ?hs24 ?hf24
 case hs24=>exact .nil
 intro yw11 v7 hg h11
 simp only [FW,putFrom,Act.put,lqA,lqB,lqC,wvals,kW,lqD,Kw.c]
 clear h11
 replace g3:=g3.trans hg
 replace g4:=g4.trans hg
 replace g5:=g5.trans hg
 replace gU:=gU.trans hg
 clear hg
 go_upto_region 12 with fail
 refine wp_wS [.c (.int .i64 1802),.c (.int .i64 1802),.c (.int .i64 1802),.c (.bool false),.c (.bool false),.c (.int .i64 1802),.c (.int .i64 1802),.c (.int .i64 1802),.c (.bool false),.c (.bool false),.c (.bool false),.c (.agg (pnt 0 0 false)),.c (.agg (pnt 0 0 false)),.c (.bool false),.c (.bool false)] [1,6,11,12,13] ?hs25 ?hf25
 case hs25=>
  exact .cons (.k _ fun yy vv hg hh=>RtW.of_c (Rt.same (num_any _ _)))<|.cons (.k _ fun yy vv hg hh=>RtW.of_c (Rt.same (num_any _ _)))<|.cons (.g 27 0 (V3_8.gr g4) rfl)<|.cons (.g 27 0 (V4_7.gr g5) rfl)<|.cons (.s (.binOp .neq 27 (.const (.agg (pnt 0 0 false))) (.const (.agg (pnt 0 0 false))) 27) rfl fun vv hg=>by simp [go_sem,exI,nePn,eqN_self]) .nil
 intro yw12 v8 hg h12
 simp only [FW,putFrom,Act.put,lqA,lqB,lqC,wvals,kW,lqD,lqE,Kw.c]
 clear h12
 replace g3:=g3.trans hg
 replace g4:=g4.trans hg
 replace g5:=g5.trans hg
 replace gU:=gU.trans hg
 clear hg
 go_upto_region 14 with fail
 refine wp_wS [.c (.int .i64 1802),.c (.bool true)] [] ?hs26 ?hf26
 case hs26=>exact .nil
 intro yw14 v9 hg h14
 simp only [FW,putFrom,Act.put,lqA,lqB,lqC,wvals,kW,lqD,lqE,Kw.c]
 clear h14
 replace g3:=g3.trans hg
 replace g4:=g4.trans hg
 replace g5:=g5.trans hg
 replace gU:=gU.trans hg
 clear hg
 go_upto_region 15 with fail
 refine wp_wS [.c (.agg (pnt 0 0 false)),.c (.agg (pnt 0 0 false)),.c (.bool true),.c (.bool true),.c (pv (v0.heap.size) 0),.c (.int .i64 0),.c (.bool true),.c (.bool true),.c (.bool true),.c (.bool true),.c (.bool true),.c (.bool true)] [0,2,5,9] ?hs27 ?hf27
 case hs27=>
  exact .cons (.g 27 0 (V3_8.gr g4) rfl)<|.cons (.s (.binOp .eql 27 (.const (.agg (pnt 0 0 false))) (.const (.agg (pnt 0 0 false))) 27) rfl fun vv hg=>by simp [go_sem,exI,eqPn,eqN_self])<|.cons (.k _ fun yy vv hg hh=>RtW.of_c (Rt.same (lenT (TR0.gr (g3.trans hg)) rfl)))<|.cons (.k _ fun yy vv hg hh=>RtW.of_c (Rt.c (HAW.out _))) .nil
 intro yw15 v10 hg h15
 simp only [FW,putFrom,Act.put,lqA,lqB,lqC,wvals,kW,lqD,lqE,Kw.c,pv]
 clear h15
 replace g3:=g3.trans hg
 replace g4:=g4.trans hg
 replace g5:=g5.trans hg
 replace gU:=gU.trans hg
 clear hg
 replace G:=G.trans gU
 replace c0:=c0.gr gU
 replace c1:=c1.gr gU
 replace c7:=c7.gr gU
 replace HQ:=fun k=>(HQ k).gr gU
 replace TR0:=TR0.gr g3
 replace V3_8:=V3_8.gr g4
 replace V4_7:=V4_7.gr g5
 clear g3 g4 g5 gU
 go_wp2_with fail
 go_ret
 exact ⟨rfl,G⟩
theorem lqmults_3 {k:Nat} (h1:1≤k) (h2:k≤15) {t:Nat} (ht:t<M) {P:Q3} (lP:P.1<M∧P.2.1<M) (oP:OnQ k P) (lt:t<oN k) (w:World):Cg 3 #[.int .i64 (k:Int),.agg (nw 9 t),.agg (pnt P.1 P.2.1 P.2.2)] w (.bool true):=by
 have HGR:Hid (∀ w,Calls Tryz.prog 9 #[.int .i64 (k:Int)] w (GetQ k w)):=fun w=>getq_yes k h1 h2 w
 have HAW:Hid (∀ w,Cg 18 #[] w (.bool true)):=fun w=>awake18_any w
 obtain ⟨z,hz⟩:=exl (cmpZ t (oN k))
 have hdt:dl t≤400:=by have:=dl_M t ht; omega
 have hdN:dl (oN k)≤400:=by have:=oN_dl k; omega
 have z0:¬ 0≤z:=by rw [← hz]; unfold cmpZ; rw [if_pos lt]; decide
 obtain ⟨A,hA⟩:=exl (mlQ k t P)
 go_enter Tryz.func3,Tryz.ntmps3
 go_upto_region 1 with fail
 refine gen_w (fun v=>Hid (Gr w v∧Vr v (w.heap.size) (nw 9 t)∧Vr v (w.heap.size+1) (pnt P.1 P.2.1 P.2.2))) ⟨grA,vrA,vrA⟩ ?_
 intro u0 HV
 go_upto_region 2 with (go_at_call 9; refine (HGR.out _).mono ?_; rintro e WB ⟨qc,rfl,HQ,GB⟩)
 obtain ⟨e7,he7⟩:=exl (WB.heap.size)
 simp only [he7]
 refine gen_w (fun v=>Gr w v∧Vr v (w.heap.size) (nw 9 t)∧Vr v (w.heap.size+1) (pnt P.1 P.2.1 P.2.2)∧Vr v e7 (crA (k:Int) (nN k) qc)∧∀ j,Sl v (qc j).1 (nN k j)) ?_ ?_
 ·subst he7
  obtain ⟨G,c0,c1⟩:=HV.out
  have g1:Gr WB (WB.alloc (.cells (crA (k:Int) (nN k) qc) 31)):=(Gr.refl _).alloc _
  exact ⟨(G.trans GB).trans g1,(c0.gr GB).gr g1,(c1.gr GB).gr g1,Vr.new _ _ _,fun j=>(HQ j).gr g1⟩
 clear he7 GB HGR HV HQ
 rintro v0 ⟨G,c0,c1,c7,HQ⟩
 go_upto_region 3 with (go_at_call 10; refine (new_any _).mono ?_; rintro e w' ⟨rfl,rfl⟩)
 refine gen_w (fun v=>Gr v0 v∧Tr v (v0.heap.size) (.slice none 0 0) []) ⟨grA,Tr.new _⟩ ?_
 rintro vr ⟨gU,TR0⟩
 have hu:v0.heap.size≤v0.heap.size:=Nat.le_refl _
 refine wp_x false [.c (pv (v0.heap.size) 0),.c (.int .i64 (k:Int)),.c (.agg (nw 9 t)),.c (.agg (pnt P.1 P.2.1 P.2.2)),.c (.tuple #[.agg (pnt A.1 A.2.1 A.2.2),.int .i64 0]),.c (.tuple #[.agg (pnt A.1 A.2.1 A.2.2),.int .i64 0]),.c (.agg (pnt A.1 A.2.1 A.2.2)),.c (.int .i64 0),.vt vr.heap.size (pnt 0 0 false) 27,.u,.c (.int .i64 0)] [2,3,8] 4 9 (fun v u=>Kp (fun b=>b<vr.heap.size) v u) (MrI vr (v0.heap.size) (evN k)) (fun x v=>Kp (fun b=>b=v0.heap.size) vr v∧∃ z,Tr v (v0.heap.size) z (evN k)∧Vr v (x 8 0).2 (pnt A.1 A.2.1 A.2.2)) 11 (fun _ => #[.pointer (some ⟨v0.heap.size,0,none⟩),.int .i64 (k:Int),.agg (nw 9 t),.agg (pnt P.1 P.2.1 P.2.2)]) 27 (fun x=>pv (x 8 0).2 0) (fun _=>.agg (pnt A.1 A.2.1 A.2.2)) (MrI.start TR0) (fun _ _ _ h g=>h.gr g) ?xo28 ?xm28 ?xs28 ⟨fnc,fnc,fnc,fnc,fnc,fnc,fnc,fnc,fnvt,fnu,fnc,trivial⟩ ?xf28
 case xo28=>
  rintro _ v HI
  have hgU:=HI.g gU hu
  refine .cons (.g 25 0 (c0.gr hgU) rfl) ?_
  refine .cons (.g 27 0 (c1.gr hgU) rfl) ?_
  exact .cons (.n 27 rfl HI.k.size) .nil
 case xm28=>exact fun _ _ HI _=>HI.mul TR0.lt fun hT=>mulR h1 h2 (P:=P) oP (d:=t) lt (Q:=A) hA hT
 case xs28=>
  rintro x v HI hy
  obtain ⟨hN,hh⟩:=hy 8 (by kernel_rfl)
  have HT:=(vr_vt hh).h
  have FT:=(vr_vt hh).f
  exact ⟨setBlk v _ (pnt A.1 A.2.1 A.2.2),by simp [go_sem,exI,HT,FT],HI.set TR0.lt hN hh (by rw [pnt_size]; decide) (by decide) _⟩
 rintro yw3 v3r ⟨k3,z3,TN3,V3⟩
 simp only [FW,putFrom,Act.put,lqA,lqB,lqC,wvals,kW,lqD,lqE,Kw.c,Kw.u,Kw.vt,pv]
 replace gU:=gr_kp gU k3 (fun b hb e=>by subst e; have:=hu; omega)
 replace TR0:=TN3
 clear TN3 k3
 go_upto_region 4 with fail
 refine wp_v false [.c (.int .i64 (k:Int)),.c (.agg (nw 9 t)),.c (.agg (pnt P.1 P.2.1 P.2.2)),.c (.tuple #[.agg (pnt A.1 A.2.1 A.2.2),.int .i64 0]),.c (.tuple #[.agg (pnt A.1 A.2.1 A.2.2),.int .i64 0]),.c (.agg (pnt A.1 A.2.1 A.2.2)),.c (.int .i64 0),.a,.u,.c (.int .i64 0)] [1,2,3] [⟨7,8,27,pnt 0 0 false,fun _=>pnt A.1 A.2.1 A.2.2⟩] ?hs29 ?hv29 ?hf29
 case hs29=>
  exact .cons (.g 25 0 (c0.gr gU) rfl)<|.cons (.g 27 0 (c1.gr gU) rfl)<|.cons (.k _ fun yy vv hg hh=>RtW.of_c (Rt.c (mulM h1 h2 (P:=P) oP (d:=t) lt (Q:=A) hA _))) .nil
 case hv29=>
  refine .cons (.mk (fun _ _ _=>rfl) (fun _ v b H F=>by dsimp only at H ⊢; simp [go_sem,exI,H,F]) zPnt ⟨fkc,fkc,fkc,fkc,fkc,fkc,fkc,fka,fku,fkc,trivial⟩) .nil
 intro yw4 v1 hg h4 hV4
 simp only [FW,putFrom,Act.put,lqA,lqB,lqC,wvals,kW,lqD,lqE,Kw.c,Kw.a,Kw.u]
 obtain ⟨⟨N4_7,V4_7⟩, -⟩:(v3r.heap.size≤(yw4 7 0).2∧Vr v1 (yw4 7 0).2 (pnt A.1 A.2.1 A.2.2))∧True:=hV4
 clear h4
 replace gU:=gU.trans hg
 have g4:=hg
 clear hg
 go_upto_region 5 with fail
 refine wp_wS [.c (.int .i64 0)] [] ?hs30 ?hf30
 case hs30=>exact .nil
 intro yw5 v2 hg h5
 simp only [FW,putFrom,Act.put,lqA,lqB,lqC,wvals,kW,lqD,Kw.c]
 clear h5
 replace g4:=g4.trans hg
 replace gU:=gU.trans hg
 have g5:=hg
 clear hg
 go_upto_region 6 with fail
 refine wp_wS [.c (.bool true),.c (.bool false),.c (.bool false)] [] ?hs31 ?hf31
 case hs31=>exact .nil
 intro yw6 v3 hg h6
 simp only [FW,putFrom,Act.put,lqA,lqB,lqC,wvals,kW,lqD,lqE,Kw.c]
 clear h6
 replace g4:=g4.trans hg
 replace g5:=g5.trans hg
 replace gU:=gU.trans hg
 clear hg
 go_upto_region 8 with fail
 refine wp_w [.c (.agg (crA (k:Int) (nN k) qc)),.c (.agg (pnt P.1 P.2.1 P.2.2)),.pt (P.1) (P.2.1) P.2.2,.c (.bool true),.c (.bool false),.c (.bool false)] [0,1,2,3] ?hs32 ?hf32
 case hs32=>
  exact .cons (.g 31 0 (c7.gr gU) rfl)<|.cons (.g 27 0 (c1.gr gU) rfl)<|.cons (.k _ fun yy vv hg hh=>RtW.of_pt (rin_any _ _ _ lP.1 lP.2 _))<|.cons (.k (fun yy => #[.agg (crA (k:Int) (nN k) qc),.agg (ptA (yy 2 0).1 (P.1) (yy 2 0).2 (yy 2 1).1 (P.2.1) (yy 2 1).2 P.2.2)]) fun yy vv hg hh=>RtW.of_c (ron_is h1 h2 lP oP qc (fun j=>(HQ j).gr (gU.trans hg)) (hh 2 rfl).1 (hh 2 rfl).2)) .nil
 intro yw8 v4 hg h8
 simp only [FW,putFrom,Act.put,lqA,lqB,lqC,wvals,kW,lqD,lqE,Kw.c,Kw.pt]
 clear h8
 replace g4:=g4.trans hg
 replace g5:=g5.trans hg
 replace gU:=gU.trans hg
 clear hg
 go_upto_region 10 with fail
 refine wp_w [.c (.agg (nw 9 t)),.n (t),.c (pv e7 4),.c (.slice (qc 3).1 (dl (oN k)) (qc 3).2),.c (.int .i64 z),.c (.bool false),.c (.bool false)] [0,1,3,4,5] ?hs33 ?hf33
 case hs33=>
  exact .cons (.g 25 0 (c0.gr gU) rfl)<|.cons (.k _ fun yy vv hg hh=>RtW.of_n (fm_any ht))<|.cons (.o 29 4 (c7.gr gU) rfl rfl)<|.cons (.k (fun yy => #[.slice (yy 1 0).1 (dl (t)) (yy 1 0).2,.slice (qc 3).1 (dl (oN k)) (qc 3).2]) fun yy vv hg hh=>RtW.of_c (cz_any (hh 1 rfl) ((HQ 3).gr (gU.trans hg)) hdt hdN hz))<|.cons (.s (.binOp .geq 3 (.const (.int .i64 z)) (.const (.int .i64 0)) 3) rfl fun vv hg=>by simp [go_sem,exI,z0]) .nil
 intro yw10 v5 hg h10
 simp only [FW,putFrom,Act.put,lqA,lqB,lqC,wvals,kW,lqD,lqE,Kw.c,pv,Kw.n]
 clear h10
 replace g4:=g4.trans hg
 replace g5:=g5.trans hg
 replace gU:=gU.trans hg
 clear hg
 go_upto_region 12 with fail
 refine wp_wS [.c (.int .i64 0),.c (.int .i64 0),.c (.int .i64 0),.c (.bool false),.c (.bool false),.c (.int .i64 0),.c (.int .i64 0),.c (.int .i64 0),.c (.bool false),.c (.bool false),.c (.bool false),.c (.agg (pnt A.1 A.2.1 A.2.2)),.c (.agg (pnt A.1 A.2.1 A.2.2)),.c (.bool false),.c (.bool false)] [1,6,11,12,13] ?hs34 ?hf34
 case hs34=>
  exact .cons (.k _ fun yy vv hg hh=>RtW.of_c (Rt.same (num_any _ _)))<|.cons (.k _ fun yy vv hg hh=>RtW.of_c (Rt.same (num_any _ _)))<|.cons (.g 27 0 (V3.gr g4) rfl)<|.cons (.g 27 0 (V4_7.gr g5) rfl)<|.cons (.s (.binOp .neq 27 (.const (.agg (pnt A.1 A.2.1 A.2.2))) (.const (.agg (pnt A.1 A.2.1 A.2.2))) 27) rfl fun vv hg=>by simp [go_sem,exI,nePn,eqN_self]) .nil
 intro yw12 v6 hg h12
 simp only [FW,putFrom,Act.put,lqA,lqB,lqC,wvals,kW,lqD,lqE,Kw.c]
 clear h12
 replace g4:=g4.trans hg
 replace g5:=g5.trans hg
 replace gU:=gU.trans hg
 clear hg
 go_upto_region 14 with fail
 refine wp_wS [.c (.int .i64 0),.c (.bool false)] [] ?hs35 ?hf35
 case hs35=>exact .nil
 intro yw14 v7 hg h14
 simp only [FW,putFrom,Act.put,lqA,lqB,lqC,wvals,kW,lqD,lqE,Kw.c]
 clear h14
 replace g4:=g4.trans hg
 replace g5:=g5.trans hg
 replace gU:=gU.trans hg
 clear hg
 go_upto_region 16 with fail
 refine wp_w [.c (.agg (pnt A.1 A.2.1 A.2.2)),.c (.agg (crA (k:Int) (nN k) qc)),.c (.agg (nw 9 t)),.n (t),.c (.agg (pnt P.1 P.2.1 P.2.2)),.pt (P.1) (P.2.1) P.2.2,.pt (A.1) (A.2.1) A.2.2,.c (.agg (pnt A.1 A.2.1 A.2.2)),.c (.bool true),.c (.bool true),.c (.bool true),.c (.bool true),.c (.bool true)] [0,1,2,3,4,5,6,7,8,10] ?hs36 ?hf36
 case hs36=>
  exact .cons (.g 27 0 (V3.gr g4) rfl)<|.cons (.g 31 0 (c7.gr gU) rfl)<|.cons (.g 25 0 (c0.gr gU) rfl)<|.cons (.k _ fun yy vv hg hh=>RtW.of_n (fm_any ht))<|.cons (.g 27 0 (c1.gr gU) rfl)<|.cons (.k _ fun yy vv hg hh=>RtW.of_pt (rin_any _ _ _ lP.1 lP.2 _))<|.cons (.k (fun yy => #[.agg (crA (k:Int) (nN k) qc),.slice (yy 3 0).1 (dl (t)) (yy 3 0).2,.agg (ptA (yy 5 0).1 (P.1) (yy 5 0).2 (yy 5 1).1 (P.2.1) (yy 5 1).2 P.2.2)]) fun yy vv hg hh=>RtW.of_pt (hA ▸ rtimesQ k h1 h2 qc oP hdt (fun j=>(HQ j).gr (gU.trans hg)) (hh 3 rfl) (hh 5 rfl).1 (hh 5 rfl).2))<|.cons (.k (fun yy => #[.agg (ptA (yy 6 0).1 (A.1) (yy 6 0).2 (yy 6 1).1 (A.2.1) (yy 6 1).2 A.2.2)]) fun yy vv hg hh=>RtW.of_c (Rt.c (rout_any _ _ _ _ _ _ _ _ (hh 6 rfl).1 (hh 6 rfl).2)))<|.cons (.s (.binOp .eql 27 (.const (.agg (pnt A.1 A.2.1 A.2.2))) (.const (.agg (pnt A.1 A.2.1 A.2.2))) 27) rfl fun vv hg=>by simp [go_sem,exI,eqPn,eqN_self])<|.cons (.k _ fun yy vv hg hh=>RtW.of_c (Rt.c (HAW.out _))) .nil
 intro yw16 v8 hg h16
 simp only [FW,putFrom,Act.put,lqA,lqB,lqC,wvals,kW,lqD,lqE,Kw.c,Kw.n,Kw.pt]
 clear h16
 replace g4:=g4.trans hg
 replace g5:=g5.trans hg
 replace gU:=gU.trans hg
 clear hg
 replace G:=G.trans gU
 replace c0:=c0.gr gU
 replace c1:=c1.gr gU
 replace c7:=c7.gr gU
 replace HQ:=fun k=>(HQ k).gr gU
 replace V3:=V3.gr g4
 replace TR0:=TR0.gr g4
 replace V4_7:=V4_7.gr g5
 clear g4 g5 gU
 go_wp2_with fail
 go_ret
 exact ⟨rfl,G⟩
theorem lqmults_any (id:Int) (t:Nat) (ht:t<M) (P:Q3) (lP:P.1<M∧P.2.1<M) (w:World):Cg 3 #[.int .i64 id,.agg (nw 9 t),.agg (pnt P.1 P.2.1 P.2.2)] w (.bool true):=by
 by_cases h:1≤id∧id≤15
 ·obtain ⟨k,rfl⟩:∃ k:Nat,id=(k:Int):=⟨id.toNat,by omega⟩
  have h1:1≤k:=by omega
  have h2:k≤15:=by omega
  by_cases oP:onB k P.1 P.2.1 P.2.2=true
  ·by_cases lt:t<oN k
   ·exact lqmults_3 h1 h2 ht lP oP lt w
   ·exact lqmults_2 h1 h2 ht lP oP (Nat.le_of_not_lt lt) w
  ·exact lqmults_1 h1 h2 lP (Bool.eq_false_iff.2 oP) w
 ·exact lqmults_0 id (by omega) w
end
end
end Go.Proofs.YthlbckmkogkbkaaGreat