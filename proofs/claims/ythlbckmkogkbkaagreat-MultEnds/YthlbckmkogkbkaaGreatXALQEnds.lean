import Derived.Test.YthlbckmkogkbkaaGreatXAQG
namespace Go.Proofs.YthlbckmkogkbkaaGreat
open Go.RowKit
set_option maxRecDepth 100000
set_option maxHeartbeats 8000000
section
attribute [local go_sem ↓] uz1
attribute [local go_sem] uz2
section
attribute [local go_sem] uz8
attribute [local go_sem ↓] uz17 Go.wp_at_zero Go.wp_at_succ
attribute [local go_sem] uz18
theorem oN_3 (i:Nat) (h1:1≤i) (h2:i≤15):3<oN i:=by
 obtain rfl | rfl | rfl | rfl | rfl | rfl | rfl | rfl | rfl | rfl | rfl | rfl | rfl | rfl | rfl:i=1∨i=2∨i=3∨i=4∨i=5∨i=6∨i=7∨i=8∨i=9∨i=10∨i=11∨i=12∨i=13∨i=14∨i=15:=by omega
 all_goals decide +kernel
theorem lqends_any (id:Int) (n:Nat) (hn:n<18446744073709551616) (w:World):Cg 5 #[.int .i64 id,.int .u64 (n:Int)] w (.bool true):=by
 obtain ⟨u,hu,hu2,hk⟩:=idx_conv id
 have hbd:=idx_bd id
 obtain ⟨k,hkk⟩:=exl (idx id)
 rw [hkk] at hk hbd
 obtain ⟨h1,h2⟩:=hbd
 have u0:(0:Int)≤(u:Int):=by omega
 have hk2:(1:Int)+(u:Int)%15=(k:Int):=by omega
 have hk3:IntKind.i64.wrap ((u:Int)%15)=(u:Int)%15:=by rw [IntKind.wrap_i64]; omega
 have hk4:IntKind.u64.wrap ((u:Int)%15)=(u:Int)%15:=by rw [IntKind.wrap_u64]; omega
 have hk5:(u:Int).tmod 15=(u:Int)%15:=by rw [Int.tmod_eq_emod_of_nonneg (by omega)]
 have k0:(1:Int)≤(k:Int):=by omega
 have k1:(k:Int)≤15:=by omega
 have hu3:id%18446744073709551616=(u:Int):=by rw [← hu,IntKind.wrap_u64]
 clear hkk hk
 have HGR:Hid (∀ w,Calls Tryz.prog 9 #[.int .i64 (k:Int)] w (GetQ k w)):=fun w=>getq_yes k h1 h2 w
 have HAW:Hid (∀ w,Cg 18 #[] w (.bool true)):=fun w=>awake18_any w
 go_enter Tryz.func5,Tryz.ntmps5
 go_upto_region 4 with (first
  | (go_at_call 18; refine (HAW.out _).mono ?_; rintro e WA ⟨rfl,GA⟩)
  | (go_at_call 9; refine (HGR.out _).mono ?_; rintro e WB ⟨qc,rfl,HQ,GB⟩))
 obtain ⟨e9,he9⟩:=exl (WB.heap.size)
 simp only [he9]
 refine gen_w (fun v=>Gr w v∧Vr v e9 (crA (k:Int) (nN k) qc)∧(∀ j,Sl v (qc j).1 (nN k j))) ?_ ?_
 ·subst he9
  have g1:Gr WB (WB.alloc (.cells (crA (k:Int) (nN k) qc) 31)):=(Gr.refl _).alloc _
  exact ⟨(GA.trans GB).trans g1,Vr.new _ _ _,fun j=>(HQ j).gr g1⟩
 clear he9 GA GB HQ HAW HGR hu hu2 hk2 hk3 hk4 hk5 hu3 u0 k0 k1
 rintro v0 ⟨G,c9,HQ⟩
 have hM:n<M:=lt_M _ hn
 have hd:dl n≤400:=by have:=dl_M n hM; omega
 obtain ⟨P,hP⟩:=exl (mlQ k n (gQ k))
 have oP:OnQ k P:=hP ▸ mlQ_on h1 h2 _ (gQ_on h1 h2)
 have hNP:=ml_N h1 h2 hP
 have hNp:=EC.oN_pos k h1 h2
 obtain ⟨N,hN⟩:=exl (ngQ k P)
 obtain ⟨m1,hm1⟩:=exl (oN k-1)
 have hmN:mlQ k m1 P=N:=(ml_pred h1 h2 oP hNP hm1).trans hN
 have hdN:dl (oN k)≤400:=by have:=oN_dl k; omega
 have hbs1:∀ w,(bslS 29 1 #[(0,.int .u32 1)]).run Tryz.prog w=.ok (.slice (some ⟨w.heap.size,0,none⟩) 1 1) (w.alloc (.cells (nd 1 1) 63)):=fun w=>build1 1 (by decide) w
 have l0:0<oN k:=by omega
 have l1:1<oN k:=by omega
 have l3:3<oN k:=oN_3 k h1 h2
 have lm:m1<oN k:=by omega
 refine wp_wS [.c (.bool true),.c (.bool false)] [] ?hs1 ?hf1
 case hs1=>exact .nil
 intro yw4 v1 hg h4
 simp only [FW,putFrom,Act.put,lqA,lqB,lqC,wvals,kW,lqD,lqE,Kw.c]
 clear h4
 have g4:=hg
 clear hg
 go_upto_region 6 with fail
 refine wp_v true [.c (.agg (crA (k:Int) (nN k) qc)),.c (.int .u64 (n:Int)),.c (.agg (nw 9 n)),.n (n),.c (.agg (crA (k:Int) (nN k) qc)),.pt (xN k) (yN k) false,.pt (P.1) (P.2.1) P.2.2,.a,.u] [0,2,3,4,5,6] [⟨7,8,41,ptA none 0 0 none 0 0 false,fun yy=>ptA (yy 6 0).1 (P.1) (yy 6 0).2 (yy 6 1).1 (P.2.1) (yy 6 1).2 P.2.2⟩] ?hs2 ?hv2 ?hf2
 case hs2=>
  exact .cons (.g 31 0 (c9.gr g4) rfl)<|.cons (.k _ fun yy vv hg hh=>RtW.of_c (Rt.c (one_any _ hn _)))<|.cons (.k _ fun yy vv hg hh=>RtW.of_n (fm_any hM))<|.cons (.g 31 0 (c9.gr g4) rfl)<|.cons (.k _ fun yy vv hg hh=>RtW.of_pt (rg_any qc _ (fun j=>(HQ j).gr (g4.trans hg))))<|.cons (.k (fun yy => #[.agg (crA (k:Int) (nN k) qc),.slice (yy 3 0).1 (dl (n)) (yy 3 0).2,.agg (ptA (yy 5 0).1 (xN k) (yy 5 0).2 (yy 5 1).1 (yN k) (yy 5 1).2 false)]) fun yy vv hg hh=>RtW.of_pt (hP ▸ rtimesQ k h1 h2 qc (gQ_on h1 h2) hd (fun j=>(HQ j).gr (g4.trans hg)) (hh 3 rfl) (hh 5 rfl).1 (hh 5 rfl).2)) .nil
 case hv2=>
  refine .cons (.mk (fun _ _ h=>Value.agg.inj (h 6 rfl)) (fun _ v b H F=>by dsimp only at H ⊢; simp [go_sem,exI,H,F]) zPt ⟨fkc,fkc,fkc,fkn bPt,fkc,fkp bPt,fkp bPt,fka,fku,trivial⟩) .nil
 intro yw6 v2 hg h6 hV6
 simp only [FW,putFrom,Act.put,lqA,lqB,lqC,wvals,kW,lqD,lqE,Kw.c,Kw.a,Kw.n,Kw.pt,Kw.u]
 obtain ⟨S6_6,T6_6⟩:Sl v2 (yw6 6 0).1 (P.1)∧Sl v2 (yw6 6 1).1 (P.2.1):=h6 6
 obtain ⟨⟨N6_7,V6_7⟩, -⟩:(v1.heap.size≤(yw6 7 0).2∧Vr v2 (yw6 7 0).2 (ptA (yw6 6 0).1 (P.1) (yw6 6 0).2 (yw6 6 1).1 (P.2.1) (yw6 6 1).2 P.2.2))∧True:=hV6
 clear h6
 replace g4:=g4.trans hg
 clear hg
 go_upto_region 7 with fail
 refine wp_v false [.c (.agg (ptA (yw6 6 0).1 (P.1) (yw6 6 0).2 (yw6 6 1).1 (P.2.1) (yw6 6 1).2 P.2.2)),.c (.agg (pnt P.1 P.2.1 P.2.2)),.a,.u] [0,1] [⟨2,3,27,pnt 0 0 false,fun _=>pnt P.1 P.2.1 P.2.2⟩] ?hs3 ?hv3 ?hf3
 case hs3=>
  exact .cons (.g 41 0 V6_7 rfl)<|.cons (.k (fun yy => #[.agg (ptA (yw6 6 0).1 (P.1) (yw6 6 0).2 (yw6 6 1).1 (P.2.1) (yw6 6 1).2 P.2.2)]) fun yy vv hg hh=>RtW.of_c (Rt.c (rout_any _ _ _ _ _ _ _ _ (S6_6.gr hg) (T6_6.gr hg)))) .nil
 case hv3=>
  refine .cons (.mk (fun _ _ _=>rfl) (fun _ v b H F=>by dsimp only at H ⊢; simp [go_sem,exI,H,F]) zPnt ⟨fkc,fkc,fka,fku,trivial⟩) .nil
 intro yw7 v3 hg h7 hV7
 simp only [FW,putFrom,Act.put,lqA,lqB,lqC,wvals,kW,lqD,lqE,Kw.c,Kw.a,Kw.u]
 obtain ⟨⟨N7_2,V7_2⟩, -⟩:(v2.heap.size≤(yw7 2 0).2∧Vr v3 (yw7 2 0).2 (pnt P.1 P.2.1 P.2.2))∧True:=hV7
 clear h7
 replace g4:=g4.trans hg
 have g7:=hg
 clear hg
 go_upto_region 8 with fail
 refine wp_v false [.c (pv e9 0),.c (.int .i64 (k:Int)),.c (.agg (nw 9 0)),.c (.agg (pnt P.1 P.2.1 P.2.2)),.c (.tuple #[.agg (pnt 0 0 true),.int .i64 0]),.c (.tuple #[.agg (pnt 0 0 true),.int .i64 0]),.c (.agg (pnt 0 0 true)),.c (.int .i64 0),.a,.u,.c (.int .i64 0)] [1,3,4] [⟨8,9,27,pnt 0 0 false,fun _=>pnt 0 0 true⟩] ?hs4 ?hv4 ?hf4
 case hs4=>
  exact .cons (.o 3 0 (c9.gr g4) rfl rfl)<|.cons (.g 27 0 V7_2 rfl)<|.cons (.k _ fun yy vv hg hh=>RtW.of_c (Rt.c (mulM h1 h2 (P:=P) oP (d:=0) l0 (Q:=inf) (mlQ_zero h1 h2 P) _))) .nil
 case hv4=>
  refine .cons (.mk (fun _ _ _=>rfl) (fun _ v b H F=>by dsimp only at H ⊢; simp [go_sem,exI,H,F]) zPnt ⟨fkc,fkc,fkc,fkc,fkc,fkc,fkc,fkc,fka,fku,fkc,trivial⟩) .nil
 intro yw8 v4 hg h8 hV8
 simp only [FW,putFrom,Act.put,lqA,lqB,lqC,wvals,kW,lqD,lqE,Kw.c,pv,Kw.a,Kw.u]
 obtain ⟨⟨N8_8,V8_8⟩, -⟩:(v3.heap.size≤(yw8 8 0).2∧Vr v4 (yw8 8 0).2 (pnt 0 0 true))∧True:=hV8
 clear h8
 replace g4:=g4.trans hg
 replace g7:=g7.trans hg
 have g8:=hg
 clear hg
 go_upto_region 9 with fail
 refine wp_v true [.c (pv e9 0),.c (.int .i64 (k:Int)),.c (.agg (nw 9 1)),.c (.agg (pnt P.1 P.2.1 P.2.2)),.c (.tuple #[.agg (pnt P.1 P.2.1 P.2.2),.int .i64 0]),.c (.tuple #[.agg (pnt P.1 P.2.1 P.2.2),.int .i64 0]),.c (.agg (pnt P.1 P.2.1 P.2.2)),.c (.int .i64 0),.a,.u,.c (.int .i64 0)] [1,2,3,4] [⟨8,9,27,pnt 0 0 false,fun _=>pnt P.1 P.2.1 P.2.2⟩] ?hs5 ?hv5 ?hf5
 case hs5=>
  exact .cons (.o 3 0 (c9.gr g4) rfl rfl)<|.cons (.k _ fun yy vv hg hh=>RtW.of_c (Rt.c (one_any 1 (by decide) _)))<|.cons (.g 27 0 (V7_2.gr g8) rfl)<|.cons (.k _ fun yy vv hg hh=>RtW.of_c (Rt.c (mulM h1 h2 (P:=P) oP (d:=1) l1 (Q:=P) (mlQ_one h1 h2 oP) _))) .nil
 case hv5=>
  refine .cons (.mk (fun _ _ _=>rfl) (fun _ v b H F=>by dsimp only at H ⊢; simp [go_sem,exI,H,F]) zPnt ⟨fkc,fkc,fkc,fkc,fkc,fkc,fkc,fkc,fka,fku,fkc,trivial⟩) .nil
 intro yw9 v5 hg h9 hV9
 simp only [FW,putFrom,Act.put,lqA,lqB,lqC,wvals,kW,lqD,lqE,Kw.c,pv,Kw.a,Kw.u]
 obtain ⟨⟨N9_8,V9_8⟩, -⟩:(v4.heap.size≤(yw9 8 0).2∧Vr v5 (yw9 8 0).2 (pnt P.1 P.2.1 P.2.2))∧True:=hV9
 clear h9
 replace g4:=g4.trans hg
 replace g7:=g7.trans hg
 replace g8:=g8.trans hg
 have g9:=hg
 clear hg
 go_upto_region 10 with fail
 refine wp_v true [.c (pv e9 0),.c (.int .i64 (k:Int)),.c (pv e9 4),.c (.slice (qc 3).1 (dl (oN k)) (qc 3).2),.n (1),.n (m1),.c (.agg (nw 9 m1)),.c (.agg (pnt P.1 P.2.1 P.2.2)),.c (.tuple #[.agg (pnt N.1 N.2.1 N.2.2),.int .i64 0]),.c (.tuple #[.agg (pnt N.1 N.2.1 N.2.2),.int .i64 0]),.c (.agg (pnt N.1 N.2.1 N.2.2)),.c (.int .i64 0),.a,.u,.c (.int .i64 0)] [1,3,4,5,6,7,8] [⟨12,13,27,pnt 0 0 false,fun _=>pnt N.1 N.2.1 N.2.2⟩] ?hs6 ?hv6 ?hf6
 case hs6=>
  exact .cons (.o 3 0 (c9.gr g4) rfl rfl)<|.cons (.o 29 4 (c9.gr g4) rfl rfl)<|.cons (.b (.buildSlice 29 1 #[(0,.const (.int .u32 1))]) rfl rfl (fun vv=>by simp [go_sem,exI,hbs1]; rfl) (sl_lit 1 (by decide)))<|.cons (.k (fun yy => #[.slice (qc 3).1 (dl (oN k)) (qc 3).2,.slice (yy 4 0).1 (dl (1)) (yy 4 0).2]) fun yy vv hg hh=>RtW.of_n (sb_any ((HQ 3).gr (g4.trans hg)) (hh 4 rfl) hdN (by omega) hm1))<|.cons (.k (fun yy => #[.slice (yy 5 0).1 (dl (m1)) (yy 5 0).2]) fun yy vv hg hh=>RtW.of_c (nt_any (hh 5 rfl)))<|.cons (.g 27 0 (V7_2.gr g8) rfl)<|.cons (.k _ fun yy vv hg hh=>RtW.of_c (Rt.c (mulM h1 h2 (P:=P) oP (d:=m1) lm (Q:=N) hmN _))) .nil
 case hv6=>
  refine .cons (.mk (fun _ _ _=>rfl) (fun _ v b H F=>by dsimp only at H ⊢; simp [go_sem,exI,H,F]) zPnt ⟨fkc,fkc,fkc,fkc,fkn bPnt,fkn bPnt,fkc,fkc,fkc,fkc,fkc,fkc,fka,fku,fkc,trivial⟩) .nil
 intro yw10 v6 hg h10 hV10
 simp only [FW,putFrom,Act.put,lqA,lqB,lqC,wvals,kW,lqD,lqE,Kw.c,pv,Kw.a,Kw.n,Kw.u]
 obtain ⟨⟨N10_12,V10_12⟩, -⟩:(v5.heap.size≤(yw10 12 0).2∧Vr v6 (yw10 12 0).2 (pnt N.1 N.2.1 N.2.2))∧True:=hV10
 clear h10
 replace g4:=g4.trans hg
 replace g7:=g7.trans hg
 replace g8:=g8.trans hg
 replace g9:=g9.trans hg
 have g10:=hg
 clear hg
 go_upto_region 11 with fail
 refine wp_v true [.c (pv e9 0),.c (.int .i64 (k:Int)),.c (.agg (nw 9 3)),.c (.agg (pnt 0 0 true)),.c (.tuple #[.agg (pnt 0 0 true),.int .i64 0]),.c (.tuple #[.agg (pnt 0 0 true),.int .i64 0]),.c (.agg (pnt 0 0 true)),.c (.int .i64 0),.a,.u,.c (.int .i64 0)] [1,2,4] [⟨8,9,27,pnt 0 0 false,fun _=>pnt 0 0 true⟩] ?hs7 ?hv7 ?hf7
 case hs7=>
  exact .cons (.o 3 0 (c9.gr g4) rfl rfl)<|.cons (.k _ fun yy vv hg hh=>RtW.of_c (Rt.c (one_any 3 (by decide) _)))<|.cons (.k _ fun yy vv hg hh=>RtW.of_c (Rt.c (mulM h1 h2 (P:=inf) (inf_on k) (d:=3) l3 (Q:=inf) (mlQ_inf h1 h2 3) _))) .nil
 case hv7=>
  refine .cons (.mk (fun _ _ _=>rfl) (fun _ v b H F=>by dsimp only at H ⊢; simp [go_sem,exI,H,F]) zPnt ⟨fkc,fkc,fkc,fkc,fkc,fkc,fkc,fkc,fka,fku,fkc,trivial⟩) .nil
 intro yw11 v7 hg h11 hV11
 simp only [FW,putFrom,Act.put,lqA,lqB,lqC,wvals,kW,lqD,lqE,Kw.c,pv,Kw.a,Kw.u]
 obtain ⟨⟨N11_8,V11_8⟩, -⟩:(v6.heap.size≤(yw11 8 0).2∧Vr v7 (yw11 8 0).2 (pnt 0 0 true))∧True:=hV11
 clear h11
 replace g10:=g10.trans hg
 replace g4:=g4.trans hg
 replace g7:=g7.trans hg
 replace g8:=g8.trans hg
 replace g9:=g9.trans hg
 have g11:=hg
 clear hg
 go_upto_region 12 with fail
 refine wp_w [.c (.int .i64 0),.c (.int .i64 0),.c (.bool true),.c (.bool true),.c (.int .i64 0),.c (.int .i64 0),.c (.bool true),.c (.bool true),.c (.bool true),.c (.int .i64 0),.c (.int .i64 0),.c (.bool true),.c (.bool true),.c (.bool true),.c (.int .i64 0),.c (.int .i64 0),.c (.bool true),.c (.bool true),.c (.bool true),.c (.agg (pnt 0 0 true)),.c (.agg (pnt 0 0 true)),.c (.bool true),.c (.bool true),.c (.bool true),.c (.agg (pnt P.1 P.2.1 P.2.2)),.c (.agg (pnt P.1 P.2.1 P.2.2)),.c (.bool true),.c (.bool true),.c (.bool true),.c (.agg (pnt N.1 N.2.1 N.2.2)),.c (.agg (crA (k:Int) (nN k) qc)),.c (.agg (ptA (yw6 6 0).1 (P.1) (yw6 6 0).2 (yw6 6 1).1 (P.2.1) (yw6 6 1).2 P.2.2)),.pt (N.1) (N.2.1) N.2.2,.c (.agg (pnt N.1 N.2.1 N.2.2)),.c (.bool true),.c (.bool true),.c (.bool true),.c (.agg (pnt 0 0 true)),.c (.agg (pnt 0 0 true)),.c (.bool true),.c (.bool true),.c (.bool true)] [1,5,10,15,19,21,24,25,26,29,30,31,32,33,34,37,39] ?hs8 ?hf8
 case hs8=>
  exact .cons (.k _ fun yy vv hg hh=>RtW.of_c (Rt.same (num_any _ _)))<|.cons (.k _ fun yy vv hg hh=>RtW.of_c (Rt.same (num_any _ _)))<|.cons (.k _ fun yy vv hg hh=>RtW.of_c (Rt.same (num_any _ _)))<|.cons (.k _ fun yy vv hg hh=>RtW.of_c (Rt.same (num_any _ _)))<|.cons (.g 27 0 (V8_8.gr g9) rfl)<|.cons (.s (.binOp .eql 27 (.const (.agg (pnt 0 0 true))) (.const (.agg (pnt 0 0 true))) 27) rfl fun vv hg=>by simp [go_sem,exI,eqPn,eqN_self])<|.cons (.g 27 0 (V9_8.gr g10) rfl)<|.cons (.g 27 0 (V7_2.gr g8) rfl)<|.cons (.s (.binOp .eql 27 (.const (.agg (pnt P.1 P.2.1 P.2.2))) (.const (.agg (pnt P.1 P.2.1 P.2.2))) 27) rfl fun vv hg=>by simp [go_sem,exI,eqPn,eqN_self])<|.cons (.g 27 0 (V10_12.gr g11) rfl)<|.cons (.g 31 0 (c9.gr g4) rfl)<|.cons (.g 41 0 (V6_7.gr g7) rfl)<|.cons (.k (fun yy => #[.agg (crA (k:Int) (nN k) qc),.agg (ptA (yw6 6 0).1 (P.1) (yw6 6 0).2 (yw6 6 1).1 (P.2.1) (yw6 6 1).2 P.2.2)]) fun yy vv hg hh=>RtW.of_pt (hN ▸ rnegQ k h1 h2 qc oP (fun j=>(HQ j).gr (g4.trans hg)) (S6_6.gr (g7.trans hg)) (T6_6.gr (g7.trans hg))))<|.cons (.k (fun yy => #[.agg (ptA (yy 32 0).1 (N.1) (yy 32 0).2 (yy 32 1).1 (N.2.1) (yy 32 1).2 N.2.2)]) fun yy vv hg hh=>RtW.of_c (Rt.c (rout_any _ _ _ _ _ _ _ _ (hh 32 rfl).1 (hh 32 rfl).2)))<|.cons (.s (.binOp .eql 27 (.const (.agg (pnt N.1 N.2.1 N.2.2))) (.const (.agg (pnt N.1 N.2.1 N.2.2))) 27) rfl fun vv hg=>by simp [go_sem,exI,eqPn,eqN_self])<|.cons (.g 27 0 V11_8 rfl)<|.cons (.s (.binOp .eql 27 (.const (.agg (pnt 0 0 true))) (.const (.agg (pnt 0 0 true))) 27) rfl fun vv hg=>by simp [go_sem,exI,eqPn,eqN_self]) .nil
 intro yw12 v8 hg h12
 simp only [FW,putFrom,Act.put,lqA,lqB,lqC,wvals,kW,lqD,lqE,Kw.c,Kw.pt]
 clear h12
 replace g10:=g10.trans hg
 replace g11:=g11.trans hg
 replace g4:=g4.trans hg
 replace g7:=g7.trans hg
 replace g8:=g8.trans hg
 replace g9:=g9.trans hg
 have g12:=hg
 clear hg
 replace G:=G.trans g4
 replace c9:=c9.gr g4
 replace HQ:=fun k=>(HQ k).gr g4
 replace V6_7:=V6_7.gr g7
 replace S6_6:=S6_6.gr g7
 replace T6_6:=T6_6.gr g7
 replace V7_2:=V7_2.gr g8
 replace V8_8:=V8_8.gr g9
 replace V9_8:=V9_8.gr g10
 replace V10_12:=V10_12.gr g11
 replace V11_8:=V11_8.gr g12
 clear g10 g11 g12 g4 g7 g8 g9
 go_wp2_with fail
 go_ret
 exact ⟨rfl,G⟩
end
end
end Go.Proofs.YthlbckmkogkbkaaGreat