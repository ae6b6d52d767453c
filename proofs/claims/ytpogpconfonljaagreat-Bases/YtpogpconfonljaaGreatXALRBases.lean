import Derived.Test.YtpogpconfonljaaGreatXAQJ
namespace Go.Proofs.YtpogpconfonljaaGreat
open Go.RowKit
set_option maxRecDepth 100000
set_option maxHeartbeats 8000000
section
attribute [local go_sem ↓] uz1
attribute [local go_sem] uz2
section
attribute [local go_sem] uz8
attribute [local go_sem ↓] uz17 Go.wp_at_zero Go.wp_at_succ
attribute [local go_sem] uz18
theorem lrbases_0 (id:Int) (h:id<1∨15<id) {t:Nat} (w:World):Cg 3 #[.int .i64 id,.agg (nw 9 t)] w (.bool true):=by
 have HGR:Hid (∀ w,Cg 8 #[.int .i64 id] w (.tuple #[.agg #[.int .i64 0,.slice none 0 0,.slice none 0 0,.slice none 0 0,.slice none 0 0,.slice none 0 0,.slice none 0 0],.bool false])):=fun w=>get_no id h w
 have HAW:Hid (∀ w,Cg 13 #[] w (.bool true)):=fun w=>awake19_any w
 go_enter Tryz.func3,Tryz.ntmps3
 go_upto_region 1 with fail
 refine gen_w (fun v=>Hid (Gr w v∧Vr v (w.heap.size) (nw 9 t))) ⟨grA,vrA⟩ ?_
 intro u0 HV
 go_upto_region 2 with (go_at_call 8; refine (HGR.out _).mono ?_; rintro e WB ⟨rfl,GB⟩)
 obtain ⟨e7,he7⟩:=exl (WB.heap.size)
 simp only [he7]
 refine gen_w (fun v=>Gr w v∧Vr v (w.heap.size) (nw 9 t)) ?_ ?_
 ·subst he7
  obtain ⟨G,c0⟩:=HV.out
  have g1:Gr WB (WB.alloc (.cells (#[.int .i64 0,.slice none 0 0,.slice none 0 0,.slice none 0 0,.slice none 0 0,.slice none 0 0,.slice none 0 0]) 29)):=(Gr.refl _).alloc _
  exact ⟨(G.trans GB).trans g1,(c0.gr GB).gr g1⟩
 clear he7 GB HGR HV
 rintro v0 ⟨G,c0⟩
 go_upto_region 3 with (go_at_call 9; refine (new_any _).mono ?_; rintro e w' ⟨rfl,rfl⟩)
 refine gen_w (fun v=>Gr v0 v∧Tr v (v0.heap.size) (.slice none 0 0) []) ⟨grA,Tr.new _⟩ ?_
 rintro vr ⟨gU,TR0⟩
 refine wp_v false [.c (pv (v0.heap.size) 0),.c (.int .i64 id),.N t,.c (.tuple #[.agg (pnt 0 0 false),.int .i64 1900]),.c (.tuple #[.agg (pnt 0 0 false),.int .i64 1900]),.c (.agg (pnt 0 0 false)),.c (.int .i64 1900),.a,.u,.c (.int .i64 1900)] [2,3] [⟨7,8,35,pnt 0 0 false,fun _=>pnt 0 0 false⟩] ?hs1 ?hv1 ?hf1
 case hs1=>
  exact .cons (.g 25 0 (c0.gr gU) rfl)<|.cons (.k _ fun yy vv hg hh=>RtW.of_c (Rt.c (bmul_no id h (d:=t) (.pointer (some ⟨v0.heap.size,0,none⟩)) _))) .nil
 case hv1=>
  refine .cons (.mk (fun _ _ _=>rfl) (fun _ v b H F=>by dsimp only at H ⊢; simp [go_sem,exI,H,F]) zPnt ⟨fkc,fkc,fkc,fkc,fkc,fkc,fkc,fka,fku,fkc,trivial⟩) .nil
 intro yw3 v1 hg h3 hV3
 simp only [fzw,Kw.a]
 obtain ⟨⟨N3_7,V3_7⟩, -⟩:(vr.heap.size≤(yw3 7 0).2∧Vr v1 (yw3 7 0).2 (pnt 0 0 false))∧True:=hV3
 clear h3
 replace gU:=gU.trans hg
 have g3:=hg
 clear hg
 go_upto_region 4 with fail
 refine wp_wS [.F,.T,.T] [] ?hs2 ?hf2
 case hs2=>exact .nil
 intro yw4 v2 hg h4
 simp only [fzw]
 clear h4
 replace g3:=g3.trans hg
 replace gU:=gU.trans hg
 have g4:=hg
 clear hg
 go_upto_region 5 with fail
 refine wp_wS [.c (.int .i64 1900),.c (.int .i64 1900),.T,.T,.c (.agg (pnt 0 0 false)),.c (.agg (pnt 0 0 false)),.T,.T,.T,.c (pv (v0.heap.size) 0),.O,.T,.T,.T,.T,.T,.T] [1,4,6,10,14] ?hs3 ?hf3
 case hs3=>
  exact .cons (.k _ fun yy vv hg hh=>RtW.of_c (Rt.same (num_any _ _)))<|.cons (.g 35 0 (V3_7.gr g4) rfl)<|.cons (.s (.binOp .eql 35 (.const (.agg (pnt 0 0 false))) (.const (.agg (pnt 0 0 false))) 35) rfl fun vv hg=>by simp [go_sem,exI,eqPn,eqN_self])<|.cons (.k _ fun yy vv hg hh=>RtW.of_c (Rt.same (lenT (TR0.gr (g3.trans hg)) rfl)))<|.cons (.k _ fun yy vv hg hh=>RtW.of_c (Rt.c (HAW.out _))) .nil
 intro yw5 v3 hg h5
 simp only [fzw]
 clear h5
 replace g3:=g3.trans hg
 replace g4:=g4.trans hg
 replace gU:=gU.trans hg
 clear hg
 replace G:=G.trans gU
 replace c0:=c0.gr gU
 replace TR0:=TR0.gr g3
 replace V3_7:=V3_7.gr g4
 clear g3 g4 gU
 go_wp2_with fail
 go_ret
 exact ⟨rfl,G⟩
theorem lrbases_1 {k:Nat} (h1:1≤k) (h2:k≤15) {t:Nat} (ht:t<M) (gt:oN k≤t) (w:World):Cg 3 #[.int .i64 (k:Int),.agg (nw 9 t)] w (.bool true):=by
 have HGR:Hid (∀ w,Calls Tryz.prog 8 #[.int .i64 (k:Int)] w (GetQ k w)):=fun w=>getq_yes k h1 h2 w
 have HAW:Hid (∀ w,Cg 13 #[] w (.bool true)):=fun w=>awake19_any w
 obtain ⟨z,hz⟩:=exl (cmpZ t (oN k))
 have hdt:dl t≤400:=by have:=dl_M t ht; omega
 have hdN:dl (oN k)≤400:=by have:=oN_dl k; omega
 have z0:0≤z:=by rw [← hz]; unfold cmpZ; rw [if_neg (Nat.not_lt.2 gt)]; split <;> omega
 go_enter Tryz.func3,Tryz.ntmps3
 go_upto_region 1 with fail
 refine gen_w (fun v=>Hid (Gr w v∧Vr v (w.heap.size) (nw 9 t))) ⟨grA,vrA⟩ ?_
 intro u0 HV
 go_upto_region 2 with (go_at_call 8; refine (HGR.out _).mono ?_; rintro e WB ⟨qc,rfl,HQ,GB⟩)
 obtain ⟨e7,he7⟩:=exl (WB.heap.size)
 simp only [he7]
 refine gen_w (fun v=>Gr w v∧Vr v (w.heap.size) (nw 9 t)∧Vr v e7 (crA (k:Int) (nN k) qc)∧∀ j,Sl v (qc j).1 (nN k j)) ?_ ?_
 ·subst he7
  obtain ⟨G,c0⟩:=HV.out
  have g1:Gr WB (WB.alloc (.cells (crA (k:Int) (nN k) qc) 29)):=(Gr.refl _).alloc _
  exact ⟨(G.trans GB).trans g1,(c0.gr GB).gr g1,Vr.new _ _ _,fun j=>(HQ j).gr g1⟩
 clear he7 GB HGR HV HQ
 rintro v0 ⟨G,c0,c7,HQ⟩
 go_upto_region 3 with (go_at_call 9; refine (new_any _).mono ?_; rintro e w' ⟨rfl,rfl⟩)
 refine gen_w (fun v=>Gr v0 v∧Tr v (v0.heap.size) (.slice none 0 0) []) ⟨grA,Tr.new _⟩ ?_
 rintro vr ⟨gU,TR0⟩
 refine wp_v false [.c (pv (v0.heap.size) 0),.c (.int .i64 (k:Int)),.N t,.c (.tuple #[.agg (pnt 0 0 false),.int .i64 1901]),.c (.tuple #[.agg (pnt 0 0 false),.int .i64 1901]),.c (.agg (pnt 0 0 false)),.c (.int .i64 1901),.a,.u,.c (.int .i64 1901)] [2,3] [⟨7,8,35,pnt 0 0 false,fun _=>pnt 0 0 false⟩] ?hs4 ?hv4 ?hf4
 case hs4=>
  exact .cons (.g 25 0 (c0.gr gU) rfl)<|.cons (.k _ fun yy vv hg hh=>RtW.of_c (Rt.c (bmul_big h1 h2 (d:=t) ht gt (.pointer (some ⟨v0.heap.size,0,none⟩)) _))) .nil
 case hv4=>
  refine .cons (.mk (fun _ _ _=>rfl) (fun _ v b H F=>by dsimp only at H ⊢; simp [go_sem,exI,H,F]) zPnt ⟨fkc,fkc,fkc,fkc,fkc,fkc,fkc,fka,fku,fkc,trivial⟩) .nil
 intro yw3 v1 hg h3 hV3
 simp only [fzw,Kw.a]
 obtain ⟨⟨N3_7,V3_7⟩, -⟩:(vr.heap.size≤(yw3 7 0).2∧Vr v1 (yw3 7 0).2 (pnt 0 0 false))∧True:=hV3
 clear h3
 replace gU:=gU.trans hg
 have g3:=hg
 clear hg
 go_upto_region 4 with fail
 refine wp_wS [.T,.F,.F] [] ?hs5 ?hf5
 case hs5=>exact .nil
 intro yw4 v2 hg h4
 simp only [fzw]
 clear h4
 replace g3:=g3.trans hg
 replace gU:=gU.trans hg
 have g4:=hg
 clear hg
 go_upto_region 6 with fail
 refine wp_w [.N t,.n (t),.c (pv e7 4),.c (.slice (qc 3).1 (dl (oN k)) (qc 3).2),.c (.int .i64 z),.T,.T] [0,1,3,4,5] ?hs6 ?hf6
 case hs6=>
  exact .cons (.g 25 0 (c0.gr gU) rfl)<|.cons (.k _ fun yy vv hg hh=>RtW.of_n (fm_any ht))<|.cons (.o 27 4 (c7.gr gU) rfl rfl)<|.cons (.k (fun yy => #[.slice (yy 1 0).1 (dl (t)) (yy 1 0).2,.slice (qc 3).1 (dl (oN k)) (qc 3).2]) fun yy vv hg hh=>RtW.of_c (cz_any (hh 1 rfl) ((HQ 3).gr (gU.trans hg)) hdt hdN hz))<|.cons (.s (.binOp .geq 3 (.const (.int .i64 z)) (.const (.int .i64 0)) 3) rfl fun vv hg=>by simp [go_sem,exI,z0]) .nil
 intro yw6 v3 hg h6
 simp only [fzw]
 clear h6
 replace g3:=g3.trans hg
 replace g4:=g4.trans hg
 replace gU:=gU.trans hg
 clear hg
 go_upto_region 7 with fail
 refine wp_wS [.c (.int .i64 1901),.c (.int .i64 1901),.T,.T,.c (.agg (pnt 0 0 false)),.c (.agg (pnt 0 0 false)),.T,.T,.T,.c (pv (v0.heap.size) 0),.O,.T,.T,.T,.T,.T,.T] [1,4,6,10,14] ?hs7 ?hf7
 case hs7=>
  exact .cons (.k _ fun yy vv hg hh=>RtW.of_c (Rt.same (num_any _ _)))<|.cons (.g 35 0 (V3_7.gr g4) rfl)<|.cons (.s (.binOp .eql 35 (.const (.agg (pnt 0 0 false))) (.const (.agg (pnt 0 0 false))) 35) rfl fun vv hg=>by simp [go_sem,exI,eqPn,eqN_self])<|.cons (.k _ fun yy vv hg hh=>RtW.of_c (Rt.same (lenT (TR0.gr (g3.trans hg)) rfl)))<|.cons (.k _ fun yy vv hg hh=>RtW.of_c (Rt.c (HAW.out _))) .nil
 intro yw7 v4 hg h7
 simp only [fzw]
 clear h7
 replace g3:=g3.trans hg
 replace g4:=g4.trans hg
 replace gU:=gU.trans hg
 clear hg
 replace G:=G.trans gU
 replace c0:=c0.gr gU
 replace c7:=c7.gr gU
 replace HQ:=fun k=>(HQ k).gr gU
 replace TR0:=TR0.gr g3
 replace V3_7:=V3_7.gr g4
 clear g3 g4 gU
 go_wp2_with fail
 go_ret
 exact ⟨rfl,G⟩
theorem lrbases_2 {k:Nat} (h1:1≤k) (h2:k≤15) {t:Nat} (ht:t<M) (lt:t<oN k) (w:World):Cg 3 #[.int .i64 (k:Int),.agg (nw 9 t)] w (.bool true):=by
 have HGR:Hid (∀ w,Calls Tryz.prog 8 #[.int .i64 (k:Int)] w (GetQ k w)):=fun w=>getq_yes k h1 h2 w
 have HAW:Hid (∀ w,Cg 13 #[] w (.bool true)):=fun w=>awake19_any w
 obtain ⟨z,hz⟩:=exl (cmpZ t (oN k))
 have hdt:dl t≤400:=by have:=dl_M t ht; omega
 have hdN:dl (oN k)≤400:=by have:=oN_dl k; omega
 have z0:¬ 0≤z:=by rw [← hz]; unfold cmpZ; rw [if_pos lt]; decide
 obtain ⟨A,hA⟩:=exl (mlQ k t (gQ k))
 go_enter Tryz.func3,Tryz.ntmps3
 go_upto_region 1 with fail
 refine gen_w (fun v=>Hid (Gr w v∧Vr v (w.heap.size) (nw 9 t))) ⟨grA,vrA⟩ ?_
 intro u0 HV
 go_upto_region 2 with (go_at_call 8; refine (HGR.out _).mono ?_; rintro e WB ⟨qc,rfl,HQ,GB⟩)
 obtain ⟨e7,he7⟩:=exl (WB.heap.size)
 simp only [he7]
 refine gen_w (fun v=>Gr w v∧Vr v (w.heap.size) (nw 9 t)∧Vr v e7 (crA (k:Int) (nN k) qc)∧∀ j,Sl v (qc j).1 (nN k j)) ?_ ?_
 ·subst he7
  obtain ⟨G,c0⟩:=HV.out
  have g1:Gr WB (WB.alloc (.cells (crA (k:Int) (nN k) qc) 29)):=(Gr.refl _).alloc _
  exact ⟨(G.trans GB).trans g1,(c0.gr GB).gr g1,Vr.new _ _ _,fun j=>(HQ j).gr g1⟩
 clear he7 GB HGR HV HQ
 rintro v0 ⟨G,c0,c7,HQ⟩
 go_upto_region 3 with (go_at_call 9; refine (new_any _).mono ?_; rintro e w' ⟨rfl,rfl⟩)
 refine gen_w (fun v=>Gr v0 v∧Tr v (v0.heap.size) (.slice none 0 0) []) ⟨grA,Tr.new _⟩ ?_
 rintro vr ⟨gU,TR0⟩
 refine wp_x false [.c (pv (v0.heap.size) 0),.c (.int .i64 (k:Int)),.c (.agg (nw 9 t)),.c (.tuple #[.agg (pnt A.1 A.2.1 A.2.2),.int .i64 0]),.c (.tuple #[.agg (pnt A.1 A.2.1 A.2.2),.int .i64 0]),.c (.agg (pnt A.1 A.2.1 A.2.2)),.c (.int .i64 0),.vt vr.heap.size (pnt 0 0 false) 35,.u,.c (.int .i64 0)] [2,7] 3 8 (fun v u=>Kp (fun b=>b<vr.heap.size) v u) (MrJ vr (v0.heap.size) (.slice none 0 0) [] (evN k)) (fun x v=>Kp (Own (v0.heap.size) (.slice none 0 0)) vr v∧∃ z,Tr v (v0.heap.size) z ([]++(evN k))∧Vr v (x 7 0).2 (pnt A.1 A.2.1 A.2.2)) 10 (fun _ => #[.pointer (some ⟨v0.heap.size,0,none⟩),.int .i64 (k:Int),.agg (nw 9 t)]) 35 (fun x=>pv (x 7 0).2 0) (fun _=>.agg (pnt A.1 A.2.1 A.2.2)) (MrJ.start TR0) (fun _ _ _ h g=>h.gr g) ?xo8 ?xm8 ?xs8 ⟨fnc,fnc,fnc,fnc,fnc,fnc,fnc,fnvt,fnu,fnc,trivial⟩ ?xf8
 case xo8=>
  rintro _ v HI
  have hgU:=TR0.grow HI.k gU (Nat.le_refl _)
  refine .cons (.g 25 0 (c0.gr hgU) rfl) ?_
  exact .cons (.n 35 rfl HI.k.size) .nil
 case xm8=>exact fun _ _ HI _=>HI.mul TR0 fun hT=>bulR h1 h2 (d:=t) lt (Q:=A) hA (by decide) hT
 case xs8=>
  rintro x v HI hy
  obtain ⟨hN,hh⟩:=hy 7 (by kernel_rfl)
  have HT:=(vr_vt hh).h
  have FT:=(vr_vt hh).f
  exact ⟨setBlk v _ (pnt A.1 A.2.1 A.2.2),by simp [go_sem,exI,HT,FT],HI.set hN hh (pnt_size _ _ _) _⟩
 rintro yw3 v3r ⟨k3,z3,TN3,V3⟩
 simp only [fzw,Kw.vt]
 replace gU:=TR0.grow k3 gU (Nat.le_refl _)
 replace TR0:=TN3
 clear TN3 k3
 go_upto_region 4 with fail
 refine wp_wS [.T,.F,.F] [] ?hs9 ?hf9
 case hs9=>exact .nil
 intro yw4 v1 hg h4
 simp only [fzw]
 clear h4
 replace gU:=gU.trans hg
 have g4:=hg
 clear hg
 go_upto_region 6 with fail
 refine wp_w [.N t,.n (t),.c (pv e7 4),.c (.slice (qc 3).1 (dl (oN k)) (qc 3).2),.c (.int .i64 z),.F,.F] [0,1,3,4,5] ?hs10 ?hf10
 case hs10=>
  exact .cons (.g 25 0 (c0.gr gU) rfl)<|.cons (.k _ fun yy vv hg hh=>RtW.of_n (fm_any ht))<|.cons (.o 27 4 (c7.gr gU) rfl rfl)<|.cons (.k (fun yy => #[.slice (yy 1 0).1 (dl (t)) (yy 1 0).2,.slice (qc 3).1 (dl (oN k)) (qc 3).2]) fun yy vv hg hh=>RtW.of_c (cz_any (hh 1 rfl) ((HQ 3).gr (gU.trans hg)) hdt hdN hz))<|.cons (.s (.binOp .geq 3 (.const (.int .i64 z)) (.const (.int .i64 0)) 3) rfl fun vv hg=>by simp [go_sem,exI,z0]) .nil
 intro yw6 v2 hg h6
 simp only [fzw]
 clear h6
 replace g4:=g4.trans hg
 replace gU:=gU.trans hg
 clear hg
 go_upto_region 8 with fail
 refine wp_w [.O,.O,.T,.T,.c (.agg (pnt A.1 A.2.1 A.2.2)),.c (.agg (crA (k:Int) (nN k) qc)),.N t,.n (t),.c (.agg (crA (k:Int) (nN k) qc)),.pt (xN k) (yN k) false,.pt (A.1) (A.2.1) A.2.2,.c (.agg (pnt A.1 A.2.1 A.2.2)),.T,.T,.T,.T,.T,.T] [1,4,5,6,7,8,9,10,11,12,15] ?hs11 ?hf11
 case hs11=>
  exact .cons (.k _ fun yy vv hg hh=>RtW.of_c (Rt.same (num_any _ _)))<|.cons (.g 35 0 (V3.gr g4) rfl)<|.cons (.g 29 0 (c7.gr gU) rfl)<|.cons (.g 25 0 (c0.gr gU) rfl)<|.cons (.k _ fun yy vv hg hh=>RtW.of_n (fm_any ht))<|.cons (.g 29 0 (c7.gr gU) rfl)<|.cons (.k _ fun yy vv hg hh=>RtW.of_pt (rg_any qc _ (fun j=>(HQ j).gr (gU.trans hg))))<|.cons (.k (fun yy => #[.agg (crA (k:Int) (nN k) qc),.slice (yy 7 0).1 (dl (t)) (yy 7 0).2,.agg (ptA (yy 9 0).1 (xN k) (yy 9 0).2 (yy 9 1).1 (yN k) (yy 9 1).2 false)]) fun yy vv hg hh=>RtW.of_pt (hA ▸ rtimesQ k h1 h2 qc (gQ_on h1 h2) hdt (fun j=>(HQ j).gr (gU.trans hg)) (hh 7 rfl) (hh 9 rfl).1 (hh 9 rfl).2))<|.cons (.k (fun yy => #[.agg (ptA (yy 10 0).1 (A.1) (yy 10 0).2 (yy 10 1).1 (A.2.1) (yy 10 1).2 A.2.2)]) fun yy vv hg hh=>RtW.of_c (Rt.c (rout_any _ _ _ _ _ _ _ _ (hh 10 rfl).1 (hh 10 rfl).2)))<|.cons (.s (.binOp .eql 35 (.const (.agg (pnt A.1 A.2.1 A.2.2))) (.const (.agg (pnt A.1 A.2.1 A.2.2))) 35) rfl fun vv hg=>by simp [go_sem,exI,eqPn,eqN_self])<|.cons (.k _ fun yy vv hg hh=>RtW.of_c (Rt.c (HAW.out _))) .nil
 intro yw8 v3 hg h8
 simp only [fzw]
 clear h8
 replace g4:=g4.trans hg
 replace gU:=gU.trans hg
 clear hg
 replace G:=G.trans gU
 replace c0:=c0.gr gU
 replace c7:=c7.gr gU
 replace HQ:=fun k=>(HQ k).gr gU
 replace V3:=V3.gr g4
 replace TR0:=TR0.gr g4
 clear g4 gU
 go_wp2_with fail
 go_ret
 exact ⟨rfl,G⟩
theorem lrbases_any (id:Int) (t:Nat) (ht:t<M) (w:World):Cg 3 #[.int .i64 id,.agg (nw 9 t)] w (.bool true):=by
 by_cases h:1≤id∧id≤15
 ·obtain ⟨k,rfl⟩:∃ k:Nat,id=(k:Int):=⟨id.toNat,by omega⟩
  have h1:1≤k:=by omega
  have h2:k≤15:=by omega
  by_cases lt:t<oN k
  ·exact lrbases_2 h1 h2 ht lt w
  ·exact lrbases_1 h1 h2 ht (Nat.le_of_not_lt lt) w
 ·exact lrbases_0 id (by omega) w
end
end
end Go.Proofs.YtpogpconfonljaaGreat