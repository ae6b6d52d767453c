import Derived.Test.YthlbckmkogkbkaaGreatXAQG
namespace Go.Proofs.YthlbckmkogkbkaaGreat
open Go.RowKit
set_option maxRecDepth 100000
set_option maxHeartbeats 8000000
section
attribute [local go_sem ↓] uz1
attribute [local go_sem] uz2
section
attribute [local go_sem] uz8
attribute [local go_sem ↓] uz17 Go.wp_at_zero Go.wp_at_succ
attribute [local go_sem] uz18
theorem lqadds_any (id:Int) (a b:Nat) (la:a<M) (lb:b<M) (n:Nat) (hn:n<18446744073709551616) (w:World):Cg 6 #[.int .i64 id,.agg (nw 9 a),.agg (nw 9 b),.int .u64 (n:Int)] w (.bool true):=by
 obtain ⟨u,hu,hu2,hk⟩:=idx_conv id
 have hbd:=idx_bd id
 obtain ⟨k,hkk⟩:=exl (idx id)
 rw [hkk] at hk hbd
 obtain ⟨h1,h2⟩:=hbd
 have u0:(0:Int)≤(u:Int):=by omega
 have hk2:(1:Int)+(u:Int)%15=(k:Int):=by omega
 have hk3:IntKind.i64.wrap ((u:Int)%15)=(u:Int)%15:=by rw [IntKind.wrap_i64]; omega
 have hk4:IntKind.u64.wrap ((u:Int)%15)=(u:Int)%15:=by rw [IntKind.wrap_u64]; omega
 have hk5:(u:Int).tmod 15=(u:Int)%15:=by rw [Int.tmod_eq_emod_of_nonneg (by omega)]
 have k0:(1:Int)≤(k:Int):=by omega
 have k1:(k:Int)≤15:=by omega
 have hu3:id%18446744073709551616=(u:Int):=by rw [← hu,IntKind.wrap_u64]
 clear hkk hk
 have HGR:Hid (∀ w,Calls Tryz.prog 9 #[.int .i64 (k:Int)] w (GetQ k w)):=fun w=>getq_yes k h1 h2 w
 have HAW:Hid (∀ w,Cg 18 #[] w (.bool true)):=fun w=>awake18_any w
 go_enter Tryz.func6,Tryz.ntmps6
 go_upto_region 1 with fail
 refine gen_w (fun v=>Hid (Gr w v∧Vr v (w.heap.size) (nw 9 a)∧Vr v (w.heap.size+1) (nw 9 b))) ⟨grA,vrA,vrA⟩ ?_
 intro u0 HV
 go_upto_region 4 with (first
  | (go_at_call 18; refine (HAW.out _).mono ?_; rintro e WA ⟨rfl,GA⟩)
  | (go_at_call 9; refine (HGR.out _).mono ?_; rintro e WB ⟨qc,rfl,HQ,GB⟩))
 obtain ⟨e9,he9⟩:=exl (WB.heap.size)
 simp only [he9]
 refine gen_w (fun v=>Gr w v∧Vr v e9 (crA (k:Int) (nN k) qc)∧(∀ j,Sl v (qc j).1 (nN k j))∧Vr v (w.heap.size) (nw 9 a)∧Vr v (w.heap.size+1) (nw 9 b)) ?_ ?_
 ·subst he9
  have g1:Gr WB (WB.alloc (.cells (crA (k:Int) (nN k) qc) 31)):=(Gr.refl _).alloc _
  obtain ⟨G,c0,c1⟩:=HV.out
  have g2:=(GA.trans GB).trans g1
  exact ⟨G.trans g2,Vr.new _ _ _,fun j=>(HQ j).gr g1,c0.gr g2,c1.gr g2⟩
 clear he9 GA GB HQ HAW HGR hu hu2 hk2 hk3 hk4 hk5 hu3 u0 k0 k1 HV
 rintro v0 ⟨G,c9,HQ,c0,c1⟩
 have hM:n<M:=lt_M _ hn
 have hd:dl n≤400:=by have:=dl_M n hM; omega
 obtain ⟨P,hP⟩:=exl (mlQ k n (gQ k))
 have oP:OnQ k P:=hP ▸ mlQ_on h1 h2 _ (gQ_on h1 h2)
 have hNP:=ml_N h1 h2 hP
 have hNp:=EC.oN_pos k h1 h2
 obtain ⟨x,dx⟩:=exl (a%oN k)
 obtain ⟨y,dy⟩:=exl (b%oN k)
 have qx:x<oN k:=dx ▸ Nat.mod_lt _ (by omega)
 have qy:y<oN k:=dy ▸ Nat.mod_lt _ (by omega)
 have lx:=Nat.lt_trans qx (oN_bd k)
 have ly:=Nat.lt_trans qy (oN_bd k)
 have hdN:dl (oN k)≤400:=by have:=oN_dl k; omega
 obtain ⟨m,hm⟩:=exl ((x+y)%oN k)
 have mN:m<oN k:=hm ▸ Nat.mod_lt _ (by omega)
 obtain ⟨U,hU⟩:=exl (mlQ k x P)
 have oU:OnQ k U:=hU ▸ mlQ_on h1 h2 _ oP
 obtain ⟨V,hV⟩:=exl (mlQ k y P)
 have oV:OnQ k V:=hV ▸ mlQ_on h1 h2 _ oP
 obtain ⟨T,hT⟩:=exl (mlQ k m P)
 have hUV:plQ k U V=T:=by rw [← hU,← hV,add_modQ h1 h2 oP hNP hm,hT]
 refine wp_wS [.c (.bool true),.c (.bool false)] [] ?hs1 ?hf1
 case hs1=>exact .nil
 intro yw4 v1 hg h4
 simp only [FW,putFrom,Act.put,lqA,lqB,lqC,wvals,kW,lqD,lqE,Kw.c]
 clear h4
 have g4:=hg
 clear hg
 go_upto_region 6 with fail
 refine wp_v true [.c (.agg (crA (k:Int) (nN k) qc)),.c (.int .u64 (n:Int)),.c (.agg (nw 9 n)),.n (n),.c (.agg (crA (k:Int) (nN k) qc)),.pt (xN k) (yN k) false,.pt (P.1) (P.2.1) P.2.2,.c (.agg (pnt P.1 P.2.1 P.2.2)),.a,.u] [0,2,3,4,5,6,7] [⟨8,9,27,pnt 0 0 false,fun _=>pnt P.1 P.2.1 P.2.2⟩] ?hs2 ?hv2 ?hf2
 case hs2=>
  exact .cons (.g 31 0 (c9.gr g4) rfl)<|.cons (.k _ fun yy vv hg hh=>RtW.of_c (Rt.c (one_any _ hn _)))<|.cons (.k _ fun yy vv hg hh=>RtW.of_n (fm_any hM))<|.cons (.g 31 0 (c9.gr g4) rfl)<|.cons (.k _ fun yy vv hg hh=>RtW.of_pt (rg_any qc _ (fun j=>(HQ j).gr (g4.trans hg))))<|.cons (.k (fun yy => #[.agg (crA (k:Int) (nN k) qc),.slice (yy 3 0).1 (dl (n)) (yy 3 0).2,.agg (ptA (yy 5 0).1 (xN k) (yy 5 0).2 (yy 5 1).1 (yN k) (yy 5 1).2 false)]) fun yy vv hg hh=>RtW.of_pt (hP ▸ rtimesQ k h1 h2 qc (gQ_on h1 h2) hd (fun j=>(HQ j).gr (g4.trans hg)) (hh 3 rfl) (hh 5 rfl).1 (hh 5 rfl).2))<|.cons (.k (fun yy => #[.agg (ptA (yy 6 0).1 (P.1) (yy 6 0).2 (yy 6 1).1 (P.2.1) (yy 6 1).2 P.2.2)]) fun yy vv hg hh=>RtW.of_c (Rt.c (rout_any _ _ _ _ _ _ _ _ (hh 6 rfl).1 (hh 6 rfl).2))) .nil
 case hv2=>
  refine .cons (.mk (fun _ _ _=>rfl) (fun _ v b H F=>by dsimp only at H ⊢; simp [go_sem,exI,H,F]) zPnt ⟨fkc,fkc,fkc,fkn bPnt,fkc,fkp bPnt,fkp bPnt,fkc,fka,fku,trivial⟩) .nil
 intro yw6 v2 hg h6 hV6
 simp only [FW,putFrom,Act.put,lqA,lqB,lqC,wvals,kW,lqD,lqE,Kw.c,Kw.a,Kw.n,Kw.pt,Kw.u]
 obtain ⟨⟨N6_8,V6_8⟩, -⟩:(v1.heap.size≤(yw6 8 0).2∧Vr v2 (yw6 8 0).2 (pnt P.1 P.2.1 P.2.2))∧True:=hV6
 clear h6
 replace g4:=g4.trans hg
 clear hg
 go_upto_region 7 with fail
 refine wp_v true [.c (.agg (crA (k:Int) (nN k) qc)),.c (.agg (nw 9 a)),.c (.agg (nw 9 x)),.c (.agg (crA (k:Int) (nN k) qc)),.c (.agg (nw 9 b)),.c (.agg (nw 9 y)),.a,.a,.u,.u] [0,1,2,3,4,5] [⟨6,8,25,nw 9 0,fun _=>nw 9 x⟩,⟨7,9,25,nw 9 0,fun _=>nw 9 y⟩] ?hs3 ?hv3 ?hf3
 case hs3=>
  exact .cons (.g 31 0 (c9.gr g4) rfl)<|.cons (.g 25 0 (c0.gr g4) rfl)<|.cons (.k _ fun yy vv hg hh=>RtW.of_c (Rt.c (of_any la dx h1 h2 qc _ (fun j=>(HQ j).gr (g4.trans hg)))))<|.cons (.g 31 0 (c9.gr g4) rfl)<|.cons (.g 25 0 (c1.gr g4) rfl)<|.cons (.k _ fun yy vv hg hh=>RtW.of_c (Rt.c (of_any lb dy h1 h2 qc _ (fun j=>(HQ j).gr (g4.trans hg))))) .nil
 case hv3=>
  exact .cons (.mk (fun _ _ _=>rfl) (fun _ v b H F=>by dsimp only at H ⊢; simp [go_sem,exI,H,F]) zNat ⟨fkc,fkc,fkc,fkc,fkc,fkc,fka,fka,fku,fku,trivial⟩)<|.cons (.mk (fun _ _ _=>rfl) (fun _ v b H F=>by dsimp only at H ⊢; simp [go_sem,exI,H,F]) zNat ⟨fkc,fkc,fkc,fkc,fkc,fkc,fka,fka,fku,fku,trivial⟩) .nil
 intro yw7 v3 hg h7 hV7
 simp only [FW,putFrom,Act.put,lqA,lqB,lqC,wvals,kW,lqD,lqE,Kw.c,Kw.a,Kw.u]
 obtain ⟨⟨N7_6,V7_6⟩,⟨N7_7,V7_7⟩, -⟩:(v2.heap.size≤(yw7 6 0).2∧Vr v3 (yw7 6 0).2 (nw 9 x))∧(v2.heap.size≤(yw7 7 0).2∧Vr v3 (yw7 7 0).2 (nw 9 y))∧True:=hV7
 clear h7
 replace g4:=g4.trans hg
 have g7:=hg
 clear hg
 go_upto_region 8 with fail
 refine wp_v true [.c (.agg (nw 9 x)),.n (x),.c (.agg (nw 9 y)),.n (y),.c (pv e9 4),.c (.slice (qc 3).1 (dl (oN k)) (qc 3).2),.n (m),.c (.agg (nw 9 m)),.a,.u] [0,1,2,3,5,6,7] [⟨8,9,25,nw 9 0,fun _=>nw 9 m⟩] ?hs4 ?hv4 ?hf4
 case hs4=>
  exact .cons (.g 25 0 V7_6 rfl)<|.cons (.k _ fun yy vv hg hh=>RtW.of_n (fm_any lx))<|.cons (.g 25 0 V7_7 rfl)<|.cons (.k _ fun yy vv hg hh=>RtW.of_n (fm_any ly))<|.cons (.o 29 4 (c9.gr g4) rfl rfl)<|.cons (.k (fun yy => #[.slice (yy 1 0).1 (dl (x)) (yy 1 0).2,.slice (yy 3 0).1 (dl (y)) (yy 3 0).2,.slice (qc 3).1 (dl (oN k)) (qc 3).2]) fun yy vv hg hh=>RtW.of_n (am_any (hh 1 rfl) (hh 3 rfl) ((HQ 3).gr (g4.trans hg)) qx qy hdN hm))<|.cons (.k (fun yy => #[.slice (yy 6 0).1 (dl (m)) (yy 6 0).2]) fun yy vv hg hh=>RtW.of_c (nt_any (hh 6 rfl))) .nil
 case hv4=>
  refine .cons (.mk (fun _ _ _=>rfl) (fun _ v b H F=>by dsimp only at H ⊢; simp [go_sem,exI,H,F]) zNat ⟨fkc,fkn bNat,fkc,fkn bNat,fkc,fkc,fkn bNat,fkc,fka,fku,trivial⟩) .nil
 intro yw8 v4 hg h8 hV8
 simp only [FW,putFrom,Act.put,lqA,lqB,lqC,wvals,kW,lqD,lqE,Kw.c,pv,Kw.a,Kw.n,Kw.u]
 obtain ⟨⟨N8_8,V8_8⟩, -⟩:(v3.heap.size≤(yw8 8 0).2∧Vr v4 (yw8 8 0).2 (nw 9 m))∧True:=hV8
 clear h8
 replace g4:=g4.trans hg
 replace g7:=g7.trans hg
 have g8:=hg
 clear hg
 go_upto_region 9 with fail
 refine wp_v false [.c (pv e9 0),.c (.int .i64 (k:Int)),.c (.agg (nw 9 x)),.c (.agg (pnt P.1 P.2.1 P.2.2)),.c (.tuple #[.agg (pnt U.1 U.2.1 U.2.2),.int .i64 0]),.c (.tuple #[.agg (pnt U.1 U.2.1 U.2.2),.int .i64 0]),.c (.agg (pnt U.1 U.2.1 U.2.2)),.c (.int .i64 0),.a,.u,.c (.int .i64 0)] [1,2,3,4] [⟨8,9,27,pnt 0 0 false,fun _=>pnt U.1 U.2.1 U.2.2⟩] ?hs5 ?hv5 ?hf5
 case hs5=>
  exact .cons (.o 3 0 (c9.gr g4) rfl rfl)<|.cons (.g 25 0 (V7_6.gr g8) rfl)<|.cons (.g 27 0 (V6_8.gr g7) rfl)<|.cons (.k _ fun yy vv hg hh=>RtW.of_c (Rt.c (mulM h1 h2 (P:=P) oP (d:=x) qx (Q:=U) hU _))) .nil
 case hv5=>
  refine .cons (.mk (fun _ _ _=>rfl) (fun _ v b H F=>by dsimp only at H ⊢; simp [go_sem,exI,H,F]) zPnt ⟨fkc,fkc,fkc,fkc,fkc,fkc,fkc,fkc,fka,fku,fkc,trivial⟩) .nil
 intro yw9 v5 hg h9 hV9
 simp only [FW,putFrom,Act.put,lqA,lqB,lqC,wvals,kW,lqD,lqE,Kw.c,pv,Kw.a,Kw.u]
 obtain ⟨⟨N9_8,V9_8⟩, -⟩:(v4.heap.size≤(yw9 8 0).2∧Vr v5 (yw9 8 0).2 (pnt U.1 U.2.1 U.2.2))∧True:=hV9
 clear h9
 replace g4:=g4.trans hg
 replace g7:=g7.trans hg
 replace g8:=g8.trans hg
 have g9:=hg
 clear hg
 go_upto_region 10 with fail
 refine wp_v false [.c (pv e9 0),.c (.int .i64 (k:Int)),.c (.agg (nw 9 y)),.c (.agg (pnt P.1 P.2.1 P.2.2)),.c (.tuple #[.agg (pnt V.1 V.2.1 V.2.2),.int .i64 0]),.c (.tuple #[.agg (pnt V.1 V.2.1 V.2.2),.int .i64 0]),.c (.agg (pnt V.1 V.2.1 V.2.2)),.c (.int .i64 0),.a,.u,.c (.int .i64 0)] [1,2,3,4] [⟨8,9,27,pnt 0 0 false,fun _=>pnt V.1 V.2.1 V.2.2⟩] ?hs6 ?hv6 ?hf6
 case hs6=>
  exact .cons (.o 3 0 (c9.gr g4) rfl rfl)<|.cons (.g 25 0 (V7_7.gr g8) rfl)<|.cons (.g 27 0 (V6_8.gr g7) rfl)<|.cons (.k _ fun yy vv hg hh=>RtW.of_c (Rt.c (mulM h1 h2 (P:=P) oP (d:=y) qy (Q:=V) hV _))) .nil
 case hv6=>
  refine .cons (.mk (fun _ _ _=>rfl) (fun _ v b H F=>by dsimp only at H ⊢; simp [go_sem,exI,H,F]) zPnt ⟨fkc,fkc,fkc,fkc,fkc,fkc,fkc,fkc,fka,fku,fkc,trivial⟩) .nil
 intro yw10 v6 hg h10 hV10
 simp only [FW,putFrom,Act.put,lqA,lqB,lqC,wvals,kW,lqD,lqE,Kw.c,pv,Kw.a,Kw.u]
 obtain ⟨⟨N10_8,V10_8⟩, -⟩:(v5.heap.size≤(yw10 8 0).2∧Vr v6 (yw10 8 0).2 (pnt V.1 V.2.1 V.2.2))∧True:=hV10
 clear h10
 replace g4:=g4.trans hg
 replace g7:=g7.trans hg
 replace g8:=g8.trans hg
 replace g9:=g9.trans hg
 have g10:=hg
 clear hg
 go_upto_region 11 with fail
 refine wp_v false [.c (pv e9 0),.c (.int .i64 (k:Int)),.c (.agg (nw 9 m)),.c (.agg (pnt P.1 P.2.1 P.2.2)),.c (.tuple #[.agg (pnt T.1 T.2.1 T.2.2),.int .i64 0]),.c (.tuple #[.agg (pnt T.1 T.2.1 T.2.2),.int .i64 0]),.c (.agg (pnt T.1 T.2.1 T.2.2)),.c (.int .i64 0),.a,.u,.c (.int .i64 0)] [1,2,3,4] [⟨8,9,27,pnt 0 0 false,fun _=>pnt T.1 T.2.1 T.2.2⟩] ?hs7 ?hv7 ?hf7
 case hs7=>
  exact .cons (.o 3 0 (c9.gr g4) rfl rfl)<|.cons (.g 25 0 (V8_8.gr g9) rfl)<|.cons (.g 27 0 (V6_8.gr g7) rfl)<|.cons (.k _ fun yy vv hg hh=>RtW.of_c (Rt.c (mulM h1 h2 (P:=P) oP (d:=m) mN (Q:=T) hT _))) .nil
 case hv7=>
  refine .cons (.mk (fun _ _ _=>rfl) (fun _ v b H F=>by dsimp only at H ⊢; simp [go_sem,exI,H,F]) zPnt ⟨fkc,fkc,fkc,fkc,fkc,fkc,fkc,fkc,fka,fku,fkc,trivial⟩) .nil
 intro yw11 v7 hg h11 hV11
 simp only [FW,putFrom,Act.put,lqA,lqB,lqC,wvals,kW,lqD,lqE,Kw.c,pv,Kw.a,Kw.u]
 obtain ⟨⟨N11_8,V11_8⟩, -⟩:(v6.heap.size≤(yw11 8 0).2∧Vr v7 (yw11 8 0).2 (pnt T.1 T.2.1 T.2.2))∧True:=hV11
 clear h11
 replace g10:=g10.trans hg
 replace g4:=g4.trans hg
 replace g7:=g7.trans hg
 replace g8:=g8.trans hg
 replace g9:=g9.trans hg
 have g11:=hg
 clear hg
 go_upto_region 12 with fail
 refine wp_v false [.c (pv e9 0),.c (.int .i64 (k:Int)),.c (.agg (pnt U.1 U.2.1 U.2.2)),.c (.agg (pnt V.1 V.2.1 V.2.2)),.c (.tuple #[.agg (pnt T.1 T.2.1 T.2.2),.int .i64 0]),.c (.tuple #[.agg (pnt T.1 T.2.1 T.2.2),.int .i64 0]),.c (.agg (pnt T.1 T.2.1 T.2.2)),.c (.int .i64 0),.a,.u,.c (.int .i64 0)] [1,2,3,4] [⟨8,9,27,pnt 0 0 false,fun _=>pnt T.1 T.2.1 T.2.2⟩] ?hs8 ?hv8 ?hf8
 case hs8=>
  exact .cons (.o 3 0 (c9.gr g4) rfl rfl)<|.cons (.g 27 0 (V9_8.gr g10) rfl)<|.cons (.g 27 0 (V10_8.gr g11) rfl)<|.cons (.k _ fun yy vv hg hh=>RtW.of_c (Rt.c (addQ h1 h2 oU oV hUV _))) .nil
 case hv8=>
  refine .cons (.mk (fun _ _ _=>rfl) (fun _ v b H F=>by dsimp only at H ⊢; simp [go_sem,exI,H,F]) zPnt ⟨fkc,fkc,fkc,fkc,fkc,fkc,fkc,fkc,fka,fku,fkc,trivial⟩) .nil
 intro yw12 v8 hg h12 hV12
 simp only [FW,putFrom,Act.put,lqA,lqB,lqC,wvals,kW,lqD,lqE,Kw.c,pv,Kw.a,Kw.u]
 obtain ⟨⟨N12_8,V12_8⟩, -⟩:(v7.heap.size≤(yw12 8 0).2∧Vr v8 (yw12 8 0).2 (pnt T.1 T.2.1 T.2.2))∧True:=hV12
 clear h12
 replace g10:=g10.trans hg
 replace g11:=g11.trans hg
 replace g4:=g4.trans hg
 replace g7:=g7.trans hg
 replace g8:=g8.trans hg
 replace g9:=g9.trans hg
 have g12:=hg
 clear hg
 go_upto_region 13 with fail
 refine wp_wS [.c (.int .i64 0),.c (.int .i64 0),.c (.bool true),.c (.bool true),.c (.int .i64 0),.c (.int .i64 0),.c (.bool true),.c (.bool true),.c (.bool true),.c (.int .i64 0),.c (.int .i64 0),.c (.bool true),.c (.bool true),.c (.bool true),.c (.int .i64 0),.c (.int .i64 0),.c (.bool true),.c (.bool true),.c (.bool true),.c (.agg (pnt T.1 T.2.1 T.2.2)),.c (.agg (pnt T.1 T.2.1 T.2.2)),.c (.bool true),.c (.bool true),.c (.bool true)] [1,5,10,15,19,20,21] ?hs9 ?hf9
 case hs9=>
  exact .cons (.k _ fun yy vv hg hh=>RtW.of_c (Rt.same (num_any _ _)))<|.cons (.k _ fun yy vv hg hh=>RtW.of_c (Rt.same (num_any _ _)))<|.cons (.k _ fun yy vv hg hh=>RtW.of_c (Rt.same (num_any _ _)))<|.cons (.k _ fun yy vv hg hh=>RtW.of_c (Rt.same (num_any _ _)))<|.cons (.g 27 0 V12_8 rfl)<|.cons (.g 27 0 (V11_8.gr g12) rfl)<|.cons (.s (.binOp .eql 27 (.const (.agg (pnt T.1 T.2.1 T.2.2))) (.const (.agg (pnt T.1 T.2.1 T.2.2))) 27) rfl fun vv hg=>by simp [go_sem,exI,eqPn,eqN_self]) .nil
 intro yw13 v9 hg h13
 simp only [FW,putFrom,Act.put,lqA,lqB,lqC,wvals,kW,lqD,lqE,Kw.c]
 clear h13
 replace g10:=g10.trans hg
 replace g11:=g11.trans hg
 replace g12:=g12.trans hg
 replace g4:=g4.trans hg
 replace g7:=g7.trans hg
 replace g8:=g8.trans hg
 replace g9:=g9.trans hg
 have g13:=hg
 clear hg
 replace G:=G.trans g4
 replace c9:=c9.gr g4
 replace c0:=c0.gr g4
 replace c1:=c1.gr g4
 replace HQ:=fun k=>(HQ k).gr g4
 replace V6_8:=V6_8.gr g7
 replace V7_6:=V7_6.gr g8
 replace V7_7:=V7_7.gr g8
 replace V8_8:=V8_8.gr g9
 replace V9_8:=V9_8.gr g10
 replace V10_8:=V10_8.gr g11
 replace V11_8:=V11_8.gr g12
 replace V12_8:=V12_8.gr g13
 clear g10 g11 g12 g13 g4 g7 g8 g9
 go_wp2_with fail
 go_ret
 exact ⟨rfl,G⟩
end
end
end Go.Proofs.YthlbckmkogkbkaaGreat