import Derived.Test.YtikilbpfhijocaaGreatXTUF
import Derived.Test.YtikilbpfhijocaaGreatXTCC
namespace Go.Proofs.YtikilbpfhijocaaGreat
open Go.RowKit
set_option maxRecDepth 100000
set_option maxHeartbeats 8000000
section
attribute [local go_sem ↓] loadNat_is loadArr_is loadWide_is loadArrW_is storeNat_is storeWide_is
attribute [local go_sem] loadNat loadArr loadWide loadArrW storeNat storeWide idxArr fold9 fold18 nw_size nw_elem pre_self pre_1 pre_2 pre_3 pre_4 pre_5 pre_6 pre_7 pre_8 pre_9 pre_10 pre_11 pre_12 pre_13 pre_14 pre_15 pre_16 pre_17 pre_18 pre_19 pre_20 pre_21 pre_22 pre_23 pre_24 pre_25 pre_26 pre_27 pre_28 pre_29 pre_30 pre_31 pre_32 pre_33 pre_34 pre_35 pre_36 pre_37 pre_38 pre_39 pre_40 gro_size gro_drew gro_drewN drew_gro drewN_gro gro_gro blk_gro frz_gro blk_drew frz_drew blk_drewN frz_drewN blk_alloc_at frz_alloc_at blk_alloc frz_alloc cell_gro frozen_gro cell_alloc_pre frozen_alloc_pre setCell_drewN alloc_drewN setBlk_drew setBlk_drewN setBlk_alloc_at setBlk_alloc setBlk_gro setCell_gro setCell_alloc_pre size_setBlk size_setCell
section
attribute [local go_sem] ppre_1 ppre_2 ppre_3 ppre_4 ppre_5 ppre_6
attribute [local go_sem ↓] bsl_is loadC_is storeC_is loadPt_is storePt_is zvPt_is buildPt_is loadPn_is storePn_is zvPn_is loadCu_is storeCu_is zvCu_is buildCu_is buildPn_is Go.wp_at_zero Go.wp_at_succ
attribute [local go_sem] loadC storeC0 storeCr crA_size loadPt storePt zvPt ptA_size loadPn storePn zvPn pnt_size loadCu storeCu zvCu cu_size buildCu0 buildPnI buildPn2 loadCP loadCA loadCB loadCN loadCG loadCX loadCY cu_P cu_A cu_B cu_N cu_G cu_X cu_Y frz_setBlk blk_setBlk setBlk_setBlk blk_other
theorem ltsizes_0 (id:Int) (x:Int) (x1:x<1) (y:Int) (w:World):Cg 6 #[.int .i64 id,.int .i64 x,.int .i64 y] w (.bool true):=by
 obtain ⟨u,hu,hu2,hk⟩:=idx_conv id
 have hbd:=idx_bd id
 obtain ⟨k,hkk⟩:∃ k,idx id=k:=⟨_,rfl⟩
 rw [hkk] at hk hbd
 obtain ⟨h1,h2⟩:=hbd
 have u0:(0:Int)≤(u:Int):=by omega
 have hk2:(1:Int)+(u:Int)%15=(k:Int):=by omega
 have hk3:IntKind.i64.wrap ((u:Int)%15)=(u:Int)%15:=by rw [IntKind.wrap_i64]; omega
 have hk4:IntKind.u64.wrap ((u:Int)%15)=(u:Int)%15:=by rw [IntKind.wrap_u64]; omega
 have hk5:(u:Int).tmod 15=(u:Int)%15:=by rw [Int.tmod_eq_emod_of_nonneg (by omega)]
 have k0:(1:Int)≤(k:Int):=by omega
 have k1:(k:Int)≤15:=by omega
 have hu3:id%18446744073709551616=(u:Int):=by rw [← hu,IntKind.wrap_u64]
 clear hkk hk
 have HGR:Hid (∀ w,Calls Tryz.prog 8 #[.int .i64 (k:Int)] w (GetQ k w)):=fun w=>getq_yes k h1 h2 w
 have HAW:Hid (∀ w,Cg 12 #[] w (.bool true)):=fun w=>awake16_any w
 go_enter Tryz.func6,Tryz.ntmps6
 go_upto_region 4 with (first
  | (go_at_call 12; refine (HAW.out _).mono ?_; rintro e WA ⟨rfl,GA⟩)
  | (go_at_call 8; refine (HGR.out _).mono ?_; rintro e WB ⟨qc,rfl,HQ,GB⟩))
 obtain ⟨e9,he9⟩:∃ b,WB.heap.size=b:=⟨_,rfl⟩
 simp only [he9]
 refine gen_w (fun v=>Gr w v∧Vr v e9 (crA (k:Int) (nN k) qc)∧∀ j,Sl v (qc j).1 (nN k j)) ?_ ?_
 ·subst he9
  exact ⟨(GA.trans GB).alloc _,Vr.new _ _ _,fun j=>(HQ j).gr ((Gr.refl _).alloc _)⟩
 clear he9 GA GB HQ HAW HGR hu hu2 hk2 hk3 hk4 hk5 hu3 u0 k0 k1
 rintro v0 ⟨G,c9,HQ⟩
 obtain ⟨P,hP⟩:∃ Z,gQ k=Z:=⟨_,rfl⟩
 have oP:OnQ k P:=hP ▸ gQ_on h1 h2
 have hx:x<1∨16<x:=Or.inl x1
 refine wp_v false [.c (.agg (crA (k:Int) (nN k) qc)),.pt (P.1) (P.2.1) P.2.2,.c (.agg (pnt P.1 P.2.1 P.2.2)),.a,.u] [0,1,2] [⟨3,4,27,pnt 0 0 false,fun _=>pnt P.1 P.2.1 P.2.2⟩] ?hs1 ?hv1 ?hf1
 case hs1=>
  exact .cons (.g 32 0 c9 rfl)<|.cons (.k _ fun yy vv hg hh=>RtW.of_pt (rgQ hP qc _ (fun j=>(HQ j).gr hg)))<|.cons (.k (fun yy => #[.agg (ptA (yy 1 0).1 (P.1) (yy 1 0).2 (yy 1 1).1 (P.2.1) (yy 1 1).2 P.2.2)]) fun yy vv hg hh=>RtW.of_c (Rt.c (rout_any _ _ _ _ _ _ _ _ (hh 1 rfl).1 (hh 1 rfl).2))) .nil
 case hv1=>
  refine .cons (.mk (fun _ _ _=>rfl) (fun _ v b H F=>by dsimp only at H ⊢; simp [go_sem,exI,H,F]) zPnt ⟨fkc,fkp bPnt,fkc,fka,fku,trivial⟩) .nil
 intro yw4 v1 hg h4 hV4
 simp only [FW,putFrom,Act.put,lqA,lqB,lqC,wvals,kW,lqD,lqE,Kw.c,Kw.a,Kw.pt,Kw.u]
 obtain ⟨⟨N4_3,V4_3⟩, -⟩:(v0.heap.size≤(yw4 3 0).2∧Vr v1 (yw4 3 0).2 (pnt P.1 P.2.1 P.2.2))∧True:=hV4
 clear h4
 have g4:=hg
 clear hg
 go_upto_region 5 with fail
 refine wp_wS [.c (pv e9 0),.c (.int .i64 (k:Int)),.c (.agg (pnt P.1 P.2.1 P.2.2)),.c (.int .i64 x),.c (.tuple #[.pointer none,.int .i64 1602]),.c (.tuple #[.pointer none,.int .i64 1602]),.c (.pointer none),.c (.int .i64 1602),.c (.pointer none),.c (.int .i64 1602)] [1,2,4] ?hs2 ?hf2
 case hs2=>
  exact .cons (.o 3 0 (c9.gr g4) rfl rfl)<|.cons (.g 27 0 V4_3 rfl)<|.cons (.k _ fun yy vv hg hh=>RtW.of_c (Rt.c (new_size h1 h2 oP hx _))) .nil
 intro yw5 v2 hg h5
 simp only [FW,putFrom,Act.put,lqA,lqB,lqC,wvals,kW,lqD,lqE,Kw.c,pv]
 clear h5
 replace g4:=g4.trans hg
 have g5:=hg
 clear hg
 go_upto_region 6 with fail
 refine wp_wS [.c (pv e9 0),.c (.int .i64 (k:Int)),.c (.agg (pnt P.1 P.2.1 P.2.2)),.tt 1 (mF k P),.tt 1 (mF k P),.tp 1 (mF k P),.c (.int .i64 0),.tp 1 (mF k P),.c (.int .i64 0)] [1,2,3,4,5,6,7] ?hs3 ?hf3
 case hs3=>
  exact .cons (.o 3 0 (c9.gr g4) rfl rfl)<|.cons (.g 27 0 (V4_3.gr g5) rfl)<|.cons (.k _ fun yy vv hg hh =>  ((new_tt h1 h2 oP (n:=1) (by decide) rfl _)))<|.cons (.m 3)<|.cons (.m 4)<|.cons (.m 4)<|.cons (.m 5) .nil
 intro yw6 v3 hg h6
 simp only [FW,putFrom,Act.put,lqA,lqB,lqC,wvals,kW,lqD,lqE,Kw.c,pv,Kw.tp,Kw.tt]
 have T6_7:Tb v3 (yw6 7 0).2 (yw6 7 1).2 (yw6 7 2).2 1 (mF k P):=h6 7
 clear h6
 replace g4:=g4.trans hg
 replace g5:=g5.trans hg
 clear hg
 go_upto_region 7 with fail
 refine wp_wS [.c (.bool true),.c (.bool false),.c (.bool false),.c (.int .i64 0),.c (.int .i64 0),.c (.bool false),.c (.bool false)] [4] ?hs4 ?hf4
 case hs4=>
  refine .cons (.k _ fun yy vv hg hh=>RtW.of_c (Rt.same (num_any _ _))) .nil
 intro yw7 v4 hg h7
 simp only [FW,putFrom,Act.put,lqA,lqB,lqC,wvals,kW,lqD,lqE,Kw.c]
 clear h7
 replace g4:=g4.trans hg
 replace g5:=g5.trans hg
 have g7:=hg
 clear hg
 go_upto_region 9 with fail
 refine wp_v false [.c (pv ((yw6 7 0).2) 0),.c (.tuple #[.agg (pnt 0 0 true),.int .i64 0]),.c (.tuple #[.agg (pnt 0 0 true),.int .i64 0]),.c (.agg (pnt 0 0 true)),.c (.int .i64 0),.a,.u,.c (.int .i64 0)] [1] [⟨5,6,27,pnt 0 0 false,fun _=>pnt 0 0 true⟩] ?hs5 ?hv5 ?hf5
 case hs5=>
  refine .cons (.k _ fun yy vv hg hh=>RtW.of_c (Rt.c (pickM h1 h2 oP (T6_7.gr (g7.trans hg)) (by decide) (i:=0) (by decide) rfl (Z:=inf) (mlQ_zero h1 h2 P)))) .nil
 case hv5=>
  refine .cons (.mk (fun _ _ _=>rfl) (fun _ v b H F=>by dsimp only at H ⊢; simp [go_sem,exI,H,F]) zPnt ⟨fkc,fkc,fkc,fkc,fkc,fka,fku,fkc,trivial⟩) .nil
 intro yw9 v5 hg h9 hV9
 simp only [FW,putFrom,Act.put,lqA,lqB,lqC,wvals,kW,lqD,lqE,Kw.c,pv,Kw.a,Kw.u]
 obtain ⟨⟨N9_5,V9_5⟩, -⟩:(v4.heap.size≤(yw9 5 0).2∧Vr v5 (yw9 5 0).2 (pnt 0 0 true))∧True:=hV9
 clear h9
 replace g4:=g4.trans hg
 replace g5:=g5.trans hg
 replace g7:=g7.trans hg
 clear hg
 go_upto_region 10 with fail
 refine wp_v false [.c (pv ((yw6 7 0).2) 0),.c (.tuple #[.agg (pnt 0 0 false),.int .i64 1603]),.c (.tuple #[.agg (pnt 0 0 false),.int .i64 1603]),.c (.agg (pnt 0 0 false)),.c (.int .i64 1603),.a,.u,.c (.int .i64 1603)] [1] [⟨5,6,27,pnt 0 0 false,fun _=>pnt 0 0 false⟩] ?hs6 ?hv6 ?hf6
 case hs6=>
  refine .cons (.k _ fun yy vv hg hh=>RtW.of_c (Rt.c (pickE (T6_7.gr (g7.trans hg)) (.pointer none) (x:=1) (Or.inr (by decide))))) .nil
 case hv6=>
  refine .cons (.mk (fun _ _ _=>rfl) (fun _ v b H F=>by dsimp only at H ⊢; simp [go_sem,exI,H,F]) zPnt ⟨fkc,fkc,fkc,fkc,fkc,fka,fku,fkc,trivial⟩) .nil
 intro yw10 v6 hg h10 hV10
 simp only [FW,putFrom,Act.put,lqA,lqB,lqC,wvals,kW,lqD,lqE,Kw.c,pv,Kw.a,Kw.u]
 obtain ⟨⟨N10_5,V10_5⟩, -⟩:(v5.heap.size≤(yw10 5 0).2∧Vr v6 (yw10 5 0).2 (pnt 0 0 false))∧True:=hV10
 clear h10
 replace g4:=g4.trans hg
 replace g5:=g5.trans hg
 replace g7:=g7.trans hg
 have g10:=hg
 clear hg
 go_upto_region 11 with fail
 refine wp_wS [.c (.int .i64 x),.c (.bool true),.c (.bool true),.u,.u,.c (.bool true)] [1] ?hs7 ?hf7
 case hs7=>
  refine .cons (.s (.binOp .lss 3 (.const (.int .i64 x)) (.const (.int .i64 1)) 3) rfl fun vv hg=>by simp [go_sem,exI,x1]) .nil
 intro yw11 v7 hg h11
 simp only [FW,putFrom,Act.put,lqA,lqB,lqC,wvals,kW,lqD,lqE,Kw.c,Kw.u]
 clear h11
 replace g10:=g10.trans hg
 replace g4:=g4.trans hg
 replace g5:=g5.trans hg
 replace g7:=g7.trans hg
 have g11:=hg
 clear hg
 go_upto_region 12 with fail
 refine wp_wS [.c (.int .i64 1602),.c (.int .i64 1602),.c (.bool true),.c (.bool true),.c (.pointer none),.c (.bool true),.c (.bool true),.c (.bool true),.c (.agg (pnt 0 0 true)),.c (.agg (pnt 0 0 true)),.c (.bool true),.c (.bool true),.c (.bool true),.c (.int .i64 0),.c (.int .i64 0),.c (.bool true),.c (.bool true),.c (.bool true)] [1,5,8,10,14] ?hs8 ?hf8
 case hs8=>
  exact .cons (.k _ fun yy vv hg hh=>RtW.of_c (Rt.same (num_any _ _)))<|.cons (.s (.binOp .eql 35 (.const (.pointer none)) (.const (.pointer none)) 35) rfl fun vv hg=>by simp [go_sem,exI])<|.cons (.g 27 0 (V9_5.gr g10) rfl)<|.cons (.s (.binOp .eql 27 (.const (.agg (pnt 0 0 true))) (.const (.agg (pnt 0 0 true))) 27) rfl fun vv hg=>by simp [go_sem,exI,eqPn,eqN_self])<|.cons (.k _ fun yy vv hg hh=>RtW.of_c (Rt.same (num_any _ _))) .nil
 intro yw12 v8 hg h12
 simp only [FW,putFrom,Act.put,lqA,lqB,lqC,wvals,kW,lqD,lqE,Kw.c]
 clear h12
 replace g10:=g10.trans hg
 replace g11:=g11.trans hg
 replace g4:=g4.trans hg
 replace g5:=g5.trans hg
 replace g7:=g7.trans hg
 clear hg
 replace G:=G.trans g4
 replace c9:=c9.gr g4
 replace HQ:=fun k=>(HQ k).gr g4
 replace V4_3:=V4_3.gr g5
 replace T6_7:=T6_7.gr g7
 replace V9_5:=V9_5.gr g10
 replace V10_5:=V10_5.gr g11
 clear g10 g11 g4 g5 g7
 go_wp2_with fail
 go_ret
 exact ⟨rfl,G⟩
theorem ltsizes_1 (id:Int) (x:Int) (x1:¬ x<1) (x2:16<x) (y:Int) (w:World):Cg 6 #[.int .i64 id,.int .i64 x,.int .i64 y] w (.bool true):=by
 obtain ⟨u,hu,hu2,hk⟩:=idx_conv id
 have hbd:=idx_bd id
 obtain ⟨k,hkk⟩:∃ k,idx id=k:=⟨_,rfl⟩
 rw [hkk] at hk hbd
 obtain ⟨h1,h2⟩:=hbd
 have u0:(0:Int)≤(u:Int):=by omega
 have hk2:(1:Int)+(u:Int)%15=(k:Int):=by omega
 have hk3:IntKind.i64.wrap ((u:Int)%15)=(u:Int)%15:=by rw [IntKind.wrap_i64]; omega
 have hk4:IntKind.u64.wrap ((u:Int)%15)=(u:Int)%15:=by rw [IntKind.wrap_u64]; omega
 have hk5:(u:Int).tmod 15=(u:Int)%15:=by rw [Int.tmod_eq_emod_of_nonneg (by omega)]
 have k0:(1:Int)≤(k:Int):=by omega
 have k1:(k:Int)≤15:=by omega
 have hu3:id%18446744073709551616=(u:Int):=by rw [← hu,IntKind.wrap_u64]
 clear hkk hk
 have HGR:Hid (∀ w,Calls Tryz.prog 8 #[.int .i64 (k:Int)] w (GetQ k w)):=fun w=>getq_yes k h1 h2 w
 have HAW:Hid (∀ w,Cg 12 #[] w (.bool true)):=fun w=>awake16_any w
 go_enter Tryz.func6,Tryz.ntmps6
 go_upto_region 4 with (first
  | (go_at_call 12; refine (HAW.out _).mono ?_; rintro e WA ⟨rfl,GA⟩)
  | (go_at_call 8; refine (HGR.out _).mono ?_; rintro e WB ⟨qc,rfl,HQ,GB⟩))
 obtain ⟨e9,he9⟩:∃ b,WB.heap.size=b:=⟨_,rfl⟩
 simp only [he9]
 refine gen_w (fun v=>Gr w v∧Vr v e9 (crA (k:Int) (nN k) qc)∧∀ j,Sl v (qc j).1 (nN k j)) ?_ ?_
 ·subst he9
  exact ⟨(GA.trans GB).alloc _,Vr.new _ _ _,fun j=>(HQ j).gr ((Gr.refl _).alloc _)⟩
 clear he9 GA GB HQ HAW HGR hu hu2 hk2 hk3 hk4 hk5 hu3 u0 k0 k1
 rintro v0 ⟨G,c9,HQ⟩
 obtain ⟨P,hP⟩:∃ Z,gQ k=Z:=⟨_,rfl⟩
 have oP:OnQ k P:=hP ▸ gQ_on h1 h2
 have hx:x<1∨16<x:=Or.inr x2
 refine wp_v false [.c (.agg (crA (k:Int) (nN k) qc)),.pt (P.1) (P.2.1) P.2.2,.c (.agg (pnt P.1 P.2.1 P.2.2)),.a,.u] [0,1,2] [⟨3,4,27,pnt 0 0 false,fun _=>pnt P.1 P.2.1 P.2.2⟩] ?hs9 ?hv9 ?hf9
 case hs9=>
  exact .cons (.g 32 0 c9 rfl)<|.cons (.k _ fun yy vv hg hh=>RtW.of_pt (rgQ hP qc _ (fun j=>(HQ j).gr hg)))<|.cons (.k (fun yy => #[.agg (ptA (yy 1 0).1 (P.1) (yy 1 0).2 (yy 1 1).1 (P.2.1) (yy 1 1).2 P.2.2)]) fun yy vv hg hh=>RtW.of_c (Rt.c (rout_any _ _ _ _ _ _ _ _ (hh 1 rfl).1 (hh 1 rfl).2))) .nil
 case hv9=>
  refine .cons (.mk (fun _ _ _=>rfl) (fun _ v b H F=>by dsimp only at H ⊢; simp [go_sem,exI,H,F]) zPnt ⟨fkc,fkp bPnt,fkc,fka,fku,trivial⟩) .nil
 intro yw4 v1 hg h4 hV4
 simp only [FW,putFrom,Act.put,lqA,lqB,lqC,wvals,kW,lqD,lqE,Kw.c,Kw.a,Kw.pt,Kw.u]
 obtain ⟨⟨N4_3,V4_3⟩, -⟩:(v0.heap.size≤(yw4 3 0).2∧Vr v1 (yw4 3 0).2 (pnt P.1 P.2.1 P.2.2))∧True:=hV4
 clear h4
 have g4:=hg
 clear hg
 go_upto_region 5 with fail
 refine wp_wS [.c (pv e9 0),.c (.int .i64 (k:Int)),.c (.agg (pnt P.1 P.2.1 P.2.2)),.c (.int .i64 x),.c (.tuple #[.pointer none,.int .i64 1602]),.c (.tuple #[.pointer none,.int .i64 1602]),.c (.pointer none),.c (.int .i64 1602),.c (.pointer none),.c (.int .i64 1602)] [1,2,4] ?hs10 ?hf10
 case hs10=>
  exact .cons (.o 3 0 (c9.gr g4) rfl rfl)<|.cons (.g 27 0 V4_3 rfl)<|.cons (.k _ fun yy vv hg hh=>RtW.of_c (Rt.c (new_size h1 h2 oP hx _))) .nil
 intro yw5 v2 hg h5
 simp only [FW,putFrom,Act.put,lqA,lqB,lqC,wvals,kW,lqD,lqE,Kw.c,pv]
 clear h5
 replace g4:=g4.trans hg
 have g5:=hg
 clear hg
 go_upto_region 6 with fail
 refine wp_wS [.c (pv e9 0),.c (.int .i64 (k:Int)),.c (.agg (pnt P.1 P.2.1 P.2.2)),.tt 1 (mF k P),.tt 1 (mF k P),.tp 1 (mF k P),.c (.int .i64 0),.tp 1 (mF k P),.c (.int .i64 0)] [1,2,3,4,5,6,7] ?hs11 ?hf11
 case hs11=>
  exact .cons (.o 3 0 (c9.gr g4) rfl rfl)<|.cons (.g 27 0 (V4_3.gr g5) rfl)<|.cons (.k _ fun yy vv hg hh =>  ((new_tt h1 h2 oP (n:=1) (by decide) rfl _)))<|.cons (.m 3)<|.cons (.m 4)<|.cons (.m 4)<|.cons (.m 5) .nil
 intro yw6 v3 hg h6
 simp only [FW,putFrom,Act.put,lqA,lqB,lqC,wvals,kW,lqD,lqE,Kw.c,pv,Kw.tp,Kw.tt]
 have T6_7:Tb v3 (yw6 7 0).2 (yw6 7 1).2 (yw6 7 2).2 1 (mF k P):=h6 7
 clear h6
 replace g4:=g4.trans hg
 replace g5:=g5.trans hg
 clear hg
 go_upto_region 7 with fail
 refine wp_wS [.c (.bool true),.c (.bool false),.c (.bool false),.c (.int .i64 0),.c (.int .i64 0),.c (.bool false),.c (.bool false)] [4] ?hs12 ?hf12
 case hs12=>
  refine .cons (.k _ fun yy vv hg hh=>RtW.of_c (Rt.same (num_any _ _))) .nil
 intro yw7 v4 hg h7
 simp only [FW,putFrom,Act.put,lqA,lqB,lqC,wvals,kW,lqD,lqE,Kw.c]
 clear h7
 replace g4:=g4.trans hg
 replace g5:=g5.trans hg
 have g7:=hg
 clear hg
 go_upto_region 9 with fail
 refine wp_v false [.c (pv ((yw6 7 0).2) 0),.c (.tuple #[.agg (pnt 0 0 true),.int .i64 0]),.c (.tuple #[.agg (pnt 0 0 true),.int .i64 0]),.c (.agg (pnt 0 0 true)),.c (.int .i64 0),.a,.u,.c (.int .i64 0)] [1] [⟨5,6,27,pnt 0 0 false,fun _=>pnt 0 0 true⟩] ?hs13 ?hv13 ?hf13
 case hs13=>
  refine .cons (.k _ fun yy vv hg hh=>RtW.of_c (Rt.c (pickM h1 h2 oP (T6_7.gr (g7.trans hg)) (by decide) (i:=0) (by decide) rfl (Z:=inf) (mlQ_zero h1 h2 P)))) .nil
 case hv13=>
  refine .cons (.mk (fun _ _ _=>rfl) (fun _ v b H F=>by dsimp only at H ⊢; simp [go_sem,exI,H,F]) zPnt ⟨fkc,fkc,fkc,fkc,fkc,fka,fku,fkc,trivial⟩) .nil
 intro yw9 v5 hg h9 hV9
 simp only [FW,putFrom,Act.put,lqA,lqB,lqC,wvals,kW,lqD,lqE,Kw.c,pv,Kw.a,Kw.u]
 obtain ⟨⟨N9_5,V9_5⟩, -⟩:(v4.heap.size≤(yw9 5 0).2∧Vr v5 (yw9 5 0).2 (pnt 0 0 true))∧True:=hV9
 clear h9
 replace g4:=g4.trans hg
 replace g5:=g5.trans hg
 replace g7:=g7.trans hg
 clear hg
 go_upto_region 10 with fail
 refine wp_v false [.c (pv ((yw6 7 0).2) 0),.c (.tuple #[.agg (pnt 0 0 false),.int .i64 1603]),.c (.tuple #[.agg (pnt 0 0 false),.int .i64 1603]),.c (.agg (pnt 0 0 false)),.c (.int .i64 1603),.a,.u,.c (.int .i64 1603)] [1] [⟨5,6,27,pnt 0 0 false,fun _=>pnt 0 0 false⟩] ?hs14 ?hv14 ?hf14
 case hs14=>
  refine .cons (.k _ fun yy vv hg hh=>RtW.of_c (Rt.c (pickE (T6_7.gr (g7.trans hg)) (.pointer none) (x:=1) (Or.inr (by decide))))) .nil
 case hv14=>
  refine .cons (.mk (fun _ _ _=>rfl) (fun _ v b H F=>by dsimp only at H ⊢; simp [go_sem,exI,H,F]) zPnt ⟨fkc,fkc,fkc,fkc,fkc,fka,fku,fkc,trivial⟩) .nil
 intro yw10 v6 hg h10 hV10
 simp only [FW,putFrom,Act.put,lqA,lqB,lqC,wvals,kW,lqD,lqE,Kw.c,pv,Kw.a,Kw.u]
 obtain ⟨⟨N10_5,V10_5⟩, -⟩:(v5.heap.size≤(yw10 5 0).2∧Vr v6 (yw10 5 0).2 (pnt 0 0 false))∧True:=hV10
 clear h10
 replace g4:=g4.trans hg
 replace g5:=g5.trans hg
 replace g7:=g7.trans hg
 have g10:=hg
 clear hg
 go_upto_region 11 with fail
 refine wp_wS [.c (.int .i64 x),.c (.bool false),.c (.bool false),.c (.int .i64 x),.c (.bool true),.c (.bool true)] [1,4] ?hs15 ?hf15
 case hs15=>
  exact .cons (.s (.binOp .lss 3 (.const (.int .i64 x)) (.const (.int .i64 1)) 3) rfl fun vv hg=>by simp [go_sem,exI,x1])<|.cons (.s (.binOp .gtr 3 (.const (.int .i64 x)) (.const (.int .i64 16)) 3) rfl fun vv hg=>by simp [go_sem,exI,x2]) .nil
 intro yw11 v7 hg h11
 simp only [FW,putFrom,Act.put,lqA,lqB,lqC,wvals,kW,lqD,lqE,Kw.c]
 clear h11
 replace g10:=g10.trans hg
 replace g4:=g4.trans hg
 replace g5:=g5.trans hg
 replace g7:=g7.trans hg
 have g11:=hg
 clear hg
 go_upto_region 12 with fail
 refine wp_wS [.c (.int .i64 1602),.c (.int .i64 1602),.c (.bool true),.c (.bool true),.c (.pointer none),.c (.bool true),.c (.bool true),.c (.bool true),.c (.agg (pnt 0 0 true)),.c (.agg (pnt 0 0 true)),.c (.bool true),.c (.bool true),.c (.bool true),.c (.int .i64 0),.c (.int .i64 0),.c (.bool true),.c (.bool true),.c (.bool true)] [1,5,8,10,14] ?hs16 ?hf16
 case hs16=>
  exact .cons (.k _ fun yy vv hg hh=>RtW.of_c (Rt.same (num_any _ _)))<|.cons (.s (.binOp .eql 35 (.const (.pointer none)) (.const (.pointer none)) 35) rfl fun vv hg=>by simp [go_sem,exI])<|.cons (.g 27 0 (V9_5.gr g10) rfl)<|.cons (.s (.binOp .eql 27 (.const (.agg (pnt 0 0 true))) (.const (.agg (pnt 0 0 true))) 27) rfl fun vv hg=>by simp [go_sem,exI,eqPn,eqN_self])<|.cons (.k _ fun yy vv hg hh=>RtW.of_c (Rt.same (num_any _ _))) .nil
 intro yw12 v8 hg h12
 simp only [FW,putFrom,Act.put,lqA,lqB,lqC,wvals,kW,lqD,lqE,Kw.c]
 clear h12
 replace g10:=g10.trans hg
 replace g11:=g11.trans hg
 replace g4:=g4.trans hg
 replace g5:=g5.trans hg
 replace g7:=g7.trans hg
 clear hg
 replace G:=G.trans g4
 replace c9:=c9.gr g4
 replace HQ:=fun k=>(HQ k).gr g4
 replace V4_3:=V4_3.gr g5
 replace T6_7:=T6_7.gr g7
 replace V9_5:=V9_5.gr g10
 replace V10_5:=V10_5.gr g11
 clear g10 g11 g4 g5 g7
 go_wp2_with fail
 go_ret
 exact ⟨rfl,G⟩
theorem ltsizes_2 (id:Int) {n:Nat} (hn:1≤n∧n≤16) {x:Int} (hx:(n:Int)=x) {i:Nat} (hi:i<n) {y:Int} (hy:(i:Int)=y) (w:World):Cg 6 #[.int .i64 id,.int .i64 x,.int .i64 y] w (.bool true):=by
 obtain ⟨u,hu,hu2,hk⟩:=idx_conv id
 have hbd:=idx_bd id
 obtain ⟨k,hkk⟩:∃ k,idx id=k:=⟨_,rfl⟩
 rw [hkk] at hk hbd
 obtain ⟨h1,h2⟩:=hbd
 have u0:(0:Int)≤(u:Int):=by omega
 have hk2:(1:Int)+(u:Int)%15=(k:Int):=by omega
 have hk3:IntKind.i64.wrap ((u:Int)%15)=(u:Int)%15:=by rw [IntKind.wrap_i64]; omega
 have hk4:IntKind.u64.wrap ((u:Int)%15)=(u:Int)%15:=by rw [IntKind.wrap_u64]; omega
 have hk5:(u:Int).tmod 15=(u:Int)%15:=by rw [Int.tmod_eq_emod_of_nonneg (by omega)]
 have k0:(1:Int)≤(k:Int):=by omega
 have k1:(k:Int)≤15:=by omega
 have hu3:id%18446744073709551616=(u:Int):=by rw [← hu,IntKind.wrap_u64]
 clear hkk hk
 have HGR:Hid (∀ w,Calls Tryz.prog 8 #[.int .i64 (k:Int)] w (GetQ k w)):=fun w=>getq_yes k h1 h2 w
 have HAW:Hid (∀ w,Cg 12 #[] w (.bool true)):=fun w=>awake16_any w
 go_enter Tryz.func6,Tryz.ntmps6
 go_upto_region 4 with (first
  | (go_at_call 12; refine (HAW.out _).mono ?_; rintro e WA ⟨rfl,GA⟩)
  | (go_at_call 8; refine (HGR.out _).mono ?_; rintro e WB ⟨qc,rfl,HQ,GB⟩))
 obtain ⟨e9,he9⟩:∃ b,WB.heap.size=b:=⟨_,rfl⟩
 simp only [he9]
 refine gen_w (fun v=>Gr w v∧Vr v e9 (crA (k:Int) (nN k) qc)∧∀ j,Sl v (qc j).1 (nN k j)) ?_ ?_
 ·subst he9
  exact ⟨(GA.trans GB).alloc _,Vr.new _ _ _,fun j=>(HQ j).gr ((Gr.refl _).alloc _)⟩
 clear he9 GA GB HQ HAW HGR hu hu2 hk2 hk3 hk4 hk5 hu3 u0 k0 k1
 rintro v0 ⟨G,c9,HQ⟩
 obtain ⟨P,hP⟩:∃ Z,gQ k=Z:=⟨_,rfl⟩
 have oP:OnQ k P:=hP ▸ gQ_on h1 h2
 have x1:¬ x<1:=by omega
 have x2:¬ 16<x:=by omega
 obtain ⟨Z,hZ⟩:∃ Z,mlQ k i P=Z:=⟨_,rfl⟩
 have y1:0≤y:=by omega
 have y2:y<x:=by omega
 refine wp_v false [.c (.agg (crA (k:Int) (nN k) qc)),.pt (P.1) (P.2.1) P.2.2,.c (.agg (pnt P.1 P.2.1 P.2.2)),.a,.u] [0,1,2] [⟨3,4,27,pnt 0 0 false,fun _=>pnt P.1 P.2.1 P.2.2⟩] ?hs17 ?hv17 ?hf17
 case hs17=>
  exact .cons (.g 32 0 c9 rfl)<|.cons (.k _ fun yy vv hg hh=>RtW.of_pt (rgQ hP qc _ (fun j=>(HQ j).gr hg)))<|.cons (.k (fun yy => #[.agg (ptA (yy 1 0).1 (P.1) (yy 1 0).2 (yy 1 1).1 (P.2.1) (yy 1 1).2 P.2.2)]) fun yy vv hg hh=>RtW.of_c (Rt.c (rout_any _ _ _ _ _ _ _ _ (hh 1 rfl).1 (hh 1 rfl).2))) .nil
 case hv17=>
  refine .cons (.mk (fun _ _ _=>rfl) (fun _ v b H F=>by dsimp only at H ⊢; simp [go_sem,exI,H,F]) zPnt ⟨fkc,fkp bPnt,fkc,fka,fku,trivial⟩) .nil
 intro yw4 v1 hg h4 hV4
 simp only [FW,putFrom,Act.put,lqA,lqB,lqC,wvals,kW,lqD,lqE,Kw.c,Kw.a,Kw.pt,Kw.u]
 obtain ⟨⟨N4_3,V4_3⟩, -⟩:(v0.heap.size≤(yw4 3 0).2∧Vr v1 (yw4 3 0).2 (pnt P.1 P.2.1 P.2.2))∧True:=hV4
 clear h4
 have g4:=hg
 clear hg
 go_upto_region 5 with fail
 refine wp_wS [.c (pv e9 0),.c (.int .i64 (k:Int)),.c (.agg (pnt P.1 P.2.1 P.2.2)),.c (.int .i64 x),.tt n (mF k P),.tt n (mF k P),.tp n (mF k P),.c (.int .i64 0),.tp n (mF k P),.c (.int .i64 0)] [1,2,4,5,6,7,8] ?hs18 ?hf18
 case hs18=>
  exact .cons (.o 3 0 (c9.gr g4) rfl rfl)<|.cons (.g 27 0 V4_3 rfl)<|.cons (.k _ fun yy vv hg hh =>  ((new_tt h1 h2 oP hn hx _)))<|.cons (.m 4)<|.cons (.m 5)<|.cons (.m 5)<|.cons (.m 6) .nil
 intro yw5 v2 hg h5
 simp only [FW,putFrom,Act.put,lqA,lqB,lqC,wvals,kW,lqD,lqE,Kw.c,pv,Kw.tp,Kw.tt]
 have T5_8:Tb v2 (yw5 8 0).2 (yw5 8 1).2 (yw5 8 2).2 n (mF k P):=h5 8
 clear h5
 replace g4:=g4.trans hg
 have g5:=hg
 clear hg
 go_upto_region 6 with fail
 refine wp_wS [.c (pv e9 0),.c (.int .i64 (k:Int)),.c (.agg (pnt P.1 P.2.1 P.2.2)),.tt 1 (mF k P),.tt 1 (mF k P),.tp 1 (mF k P),.c (.int .i64 0),.tp 1 (mF k P),.c (.int .i64 0)] [1,2,3,4,5,6,7] ?hs19 ?hf19
 case hs19=>
  exact .cons (.o 3 0 (c9.gr g4) rfl rfl)<|.cons (.g 27 0 (V4_3.gr g5) rfl)<|.cons (.k _ fun yy vv hg hh =>  ((new_tt h1 h2 oP (n:=1) (by decide) rfl _)))<|.cons (.m 3)<|.cons (.m 4)<|.cons (.m 4)<|.cons (.m 5) .nil
 intro yw6 v3 hg h6
 simp only [FW,putFrom,Act.put,lqA,lqB,lqC,wvals,kW,lqD,lqE,Kw.c,pv,Kw.tp,Kw.tt]
 have T6_7:Tb v3 (yw6 7 0).2 (yw6 7 1).2 (yw6 7 2).2 1 (mF k P):=h6 7
 clear h6
 replace g4:=g4.trans hg
 replace g5:=g5.trans hg
 have g6:=hg
 clear hg
 go_upto_region 7 with fail
 refine wp_wS [.c (.bool true),.c (.bool false),.c (.bool false),.c (.int .i64 0),.c (.int .i64 0),.c (.bool false),.c (.bool false)] [4] ?hs20 ?hf20
 case hs20=>
  refine .cons (.k _ fun yy vv hg hh=>RtW.of_c (Rt.same (num_any _ _))) .nil
 intro yw7 v4 hg h7
 simp only [FW,putFrom,Act.put,lqA,lqB,lqC,wvals,kW,lqD,lqE,Kw.c]
 clear h7
 replace g4:=g4.trans hg
 replace g5:=g5.trans hg
 replace g6:=g6.trans hg
 have g7:=hg
 clear hg
 go_upto_region 9 with fail
 refine wp_v false [.c (pv ((yw6 7 0).2) 0),.c (.tuple #[.agg (pnt 0 0 true),.int .i64 0]),.c (.tuple #[.agg (pnt 0 0 true),.int .i64 0]),.c (.agg (pnt 0 0 true)),.c (.int .i64 0),.a,.u,.c (.int .i64 0)] [1] [⟨5,6,27,pnt 0 0 false,fun _=>pnt 0 0 true⟩] ?hs21 ?hv21 ?hf21
 case hs21=>
  refine .cons (.k _ fun yy vv hg hh=>RtW.of_c (Rt.c (pickM h1 h2 oP (T6_7.gr (g7.trans hg)) (by decide) (i:=0) (by decide) rfl (Z:=inf) (mlQ_zero h1 h2 P)))) .nil
 case hv21=>
  refine .cons (.mk (fun _ _ _=>rfl) (fun _ v b H F=>by dsimp only at H ⊢; simp [go_sem,exI,H,F]) zPnt ⟨fkc,fkc,fkc,fkc,fkc,fka,fku,fkc,trivial⟩) .nil
 intro yw9 v5 hg h9 hV9
 simp only [FW,putFrom,Act.put,lqA,lqB,lqC,wvals,kW,lqD,lqE,Kw.c,pv,Kw.a,Kw.u]
 obtain ⟨⟨N9_5,V9_5⟩, -⟩:(v4.heap.size≤(yw9 5 0).2∧Vr v5 (yw9 5 0).2 (pnt 0 0 true))∧True:=hV9
 clear h9
 replace g4:=g4.trans hg
 replace g5:=g5.trans hg
 replace g6:=g6.trans hg
 replace g7:=g7.trans hg
 clear hg
 go_upto_region 10 with fail
 refine wp_v false [.c (pv ((yw6 7 0).2) 0),.c (.tuple #[.agg (pnt 0 0 false),.int .i64 1603]),.c (.tuple #[.agg (pnt 0 0 false),.int .i64 1603]),.c (.agg (pnt 0 0 false)),.c (.int .i64 1603),.a,.u,.c (.int .i64 1603)] [1] [⟨5,6,27,pnt 0 0 false,fun _=>pnt 0 0 false⟩] ?hs22 ?hv22 ?hf22
 case hs22=>
  refine .cons (.k _ fun yy vv hg hh=>RtW.of_c (Rt.c (pickE (T6_7.gr (g7.trans hg)) (.pointer none) (x:=1) (Or.inr (by decide))))) .nil
 case hv22=>
  refine .cons (.mk (fun _ _ _=>rfl) (fun _ v b H F=>by dsimp only at H ⊢; simp [go_sem,exI,H,F]) zPnt ⟨fkc,fkc,fkc,fkc,fkc,fka,fku,fkc,trivial⟩) .nil
 intro yw10 v6 hg h10 hV10
 simp only [FW,putFrom,Act.put,lqA,lqB,lqC,wvals,kW,lqD,lqE,Kw.c,pv,Kw.a,Kw.u]
 obtain ⟨⟨N10_5,V10_5⟩, -⟩:(v5.heap.size≤(yw10 5 0).2∧Vr v6 (yw10 5 0).2 (pnt 0 0 false))∧True:=hV10
 clear h10
 replace g4:=g4.trans hg
 replace g5:=g5.trans hg
 replace g6:=g6.trans hg
 replace g7:=g7.trans hg
 have g10:=hg
 clear hg
 go_upto_region 11 with fail
 refine wp_wS [.c (.int .i64 x),.c (.bool false),.c (.bool false),.c (.int .i64 x),.c (.bool false),.c (.bool false)] [1,4] ?hs23 ?hf23
 case hs23=>
  exact .cons (.s (.binOp .lss 3 (.const (.int .i64 x)) (.const (.int .i64 1)) 3) rfl fun vv hg=>by simp [go_sem,exI,x1])<|.cons (.s (.binOp .gtr 3 (.const (.int .i64 x)) (.const (.int .i64 16)) 3) rfl fun vv hg=>by simp [go_sem,exI,x2]) .nil
 intro yw11 v7 hg h11
 simp only [FW,putFrom,Act.put,lqA,lqB,lqC,wvals,kW,lqD,lqE,Kw.c]
 clear h11
 replace g10:=g10.trans hg
 replace g4:=g4.trans hg
 replace g5:=g5.trans hg
 replace g6:=g6.trans hg
 replace g7:=g7.trans hg
 have g11:=hg
 clear hg
 go_upto_region 13 with fail
 refine wp_v false [.c (pv ((yw5 8 0).2) 0),.c (.int .i64 y),.c (.tuple #[.agg (pnt Z.1 Z.2.1 Z.2.2),.int .i64 0]),.c (.tuple #[.agg (pnt Z.1 Z.2.1 Z.2.2),.int .i64 0]),.c (.agg (pnt Z.1 Z.2.1 Z.2.2)),.c (.int .i64 0),.a,.u,.c (.int .i64 0)] [2] [⟨6,7,27,pnt 0 0 false,fun _=>pnt Z.1 Z.2.1 Z.2.2⟩] ?hs24 ?hv24 ?hf24
 case hs24=>
  refine .cons (.k _ fun yy vv hg hh=>RtW.of_c (Rt.c (pickM h1 h2 oP (T5_8.gr (g6.trans hg)) hn.2 hi hy hZ))) .nil
 case hv24=>
  refine .cons (.mk (fun _ _ _=>rfl) (fun _ v b H F=>by dsimp only at H ⊢; simp [go_sem,exI,H,F]) zPnt ⟨fkc,fkc,fkc,fkc,fkc,fkc,fka,fku,fkc,trivial⟩) .nil
 intro yw13 v8 hg h13 hV13
 simp only [FW,putFrom,Act.put,lqA,lqB,lqC,wvals,kW,lqD,lqE,Kw.c,pv,Kw.a,Kw.u]
 obtain ⟨⟨N13_6,V13_6⟩, -⟩:(v7.heap.size≤(yw13 6 0).2∧Vr v8 (yw13 6 0).2 (pnt Z.1 Z.2.1 Z.2.2))∧True:=hV13
 clear h13
 replace g10:=g10.trans hg
 replace g11:=g11.trans hg
 replace g4:=g4.trans hg
 replace g5:=g5.trans hg
 replace g6:=g6.trans hg
 replace g7:=g7.trans hg
 clear hg
 go_upto_region 14 with fail
 refine wp_wS [.c (.int .i64 0),.c (.int .i64 0),.c (.bool true),.c (.bool true),.c (pv ((yw5 8 0).2) 0),.c (.int .i64 (n:Nat)),.c (.int .i64 x),.c (.bool true),.c (.bool true),.c (.bool true),.c (.agg (pnt 0 0 true)),.c (.agg (pnt 0 0 true)),.c (.bool true),.c (.bool true),.c (.bool true),.c (.int .i64 1603),.c (.int .i64 1603),.c (.bool true),.c (.bool true),.c (.bool true),.c (.int .i64 0),.c (.int .i64 0),.c (.bool true),.c (.int .i64 y),.c (.bool true),.c (.bool true),.c (.int .i64 y),.c (.int .i64 x),.c (.bool true),.c (.bool true),.c (.bool true),.c (.bool true),.c (.bool true)] [1,5,7,10,12,16,21,24,28] ?hs25 ?hf25
 case hs25=>
  exact .cons (.k _ fun yy vv hg hh=>RtW.of_c (Rt.same (num_any _ _)))<|.cons (.k _ fun yy vv hg hh=>RtW.of_c (Rt.c (sizeT (T5_8.gr (g6.trans hg)))))<|.cons (.s (.binOp .eql 3 (.const (.int .i64 (n:Nat))) (.const (.int .i64 x)) 3) rfl fun vv hg=>by simp [go_sem,exI,hx])<|.cons (.g 27 0 (V9_5.gr g10) rfl)<|.cons (.s (.binOp .eql 27 (.const (.agg (pnt 0 0 true))) (.const (.agg (pnt 0 0 true))) 27) rfl fun vv hg=>by simp [go_sem,exI,eqPn,eqN_self])<|.cons (.k _ fun yy vv hg hh=>RtW.of_c (Rt.same (num_any _ _)))<|.cons (.k _ fun yy vv hg hh=>RtW.of_c (Rt.same (num_any _ _)))<|.cons (.s (.binOp .geq 3 (.const (.int .i64 y)) (.const (.int .i64 0)) 3) rfl fun vv hg=>by simp [go_sem,exI,y1])<|.cons (.s (.binOp .lss 3 (.const (.int .i64 y)) (.const (.int .i64 x)) 3) rfl fun vv hg=>by simp [go_sem,exI,y2]) .nil
 intro yw14 v9 hg h14
 simp only [FW,putFrom,Act.put,lqA,lqB,lqC,wvals,kW,lqD,lqE,Kw.c,pv]
 clear h14
 replace g10:=g10.trans hg
 replace g11:=g11.trans hg
 replace g4:=g4.trans hg
 replace g5:=g5.trans hg
 replace g6:=g6.trans hg
 replace g7:=g7.trans hg
 have g14:=hg
 clear hg
 replace G:=G.trans g4
 replace c9:=c9.gr g4
 replace HQ:=fun k=>(HQ k).gr g4
 replace V4_3:=V4_3.gr g5
 replace T5_8:=T5_8.gr g6
 replace T6_7:=T6_7.gr g7
 replace V9_5:=V9_5.gr g10
 replace V10_5:=V10_5.gr g11
 replace V13_6:=V13_6.gr g14
 clear g10 g11 g14 g4 g5 g6 g7
 go_wp2_with fail
 go_ret
 exact ⟨rfl,G⟩
theorem ltsizes_3 (id:Int) {n:Nat} (hn:1≤n∧n≤16) {x:Int} (hx:(n:Int)=x) {y:Int} (y1:y<0) (w:World):Cg 6 #[.int .i64 id,.int .i64 x,.int .i64 y] w (.bool true):=by
 obtain ⟨u,hu,hu2,hk⟩:=idx_conv id
 have hbd:=idx_bd id
 obtain ⟨k,hkk⟩:∃ k,idx id=k:=⟨_,rfl⟩
 rw [hkk] at hk hbd
 obtain ⟨h1,h2⟩:=hbd
 have u0:(0:Int)≤(u:Int):=by omega
 have hk2:(1:Int)+(u:Int)%15=(k:Int):=by omega
 have hk3:IntKind.i64.wrap ((u:Int)%15)=(u:Int)%15:=by rw [IntKind.wrap_i64]; omega
 have hk4:IntKind.u64.wrap ((u:Int)%15)=(u:Int)%15:=by rw [IntKind.wrap_u64]; omega
 have hk5:(u:Int).tmod 15=(u:Int)%15:=by rw [Int.tmod_eq_emod_of_nonneg (by omega)]
 have k0:(1:Int)≤(k:Int):=by omega
 have k1:(k:Int)≤15:=by omega
 have hu3:id%18446744073709551616=(u:Int):=by rw [← hu,IntKind.wrap_u64]
 clear hkk hk
 have HGR:Hid (∀ w,Calls Tryz.prog 8 #[.int .i64 (k:Int)] w (GetQ k w)):=fun w=>getq_yes k h1 h2 w
 have HAW:Hid (∀ w,Cg 12 #[] w (.bool true)):=fun w=>awake16_any w
 go_enter Tryz.func6,Tryz.ntmps6
 go_upto_region 4 with (first
  | (go_at_call 12; refine (HAW.out _).mono ?_; rintro e WA ⟨rfl,GA⟩)
  | (go_at_call 8; refine (HGR.out _).mono ?_; rintro e WB ⟨qc,rfl,HQ,GB⟩))
 obtain ⟨e9,he9⟩:∃ b,WB.heap.size=b:=⟨_,rfl⟩
 simp only [he9]
 refine gen_w (fun v=>Gr w v∧Vr v e9 (crA (k:Int) (nN k) qc)∧∀ j,Sl v (qc j).1 (nN k j)) ?_ ?_
 ·subst he9
  exact ⟨(GA.trans GB).alloc _,Vr.new _ _ _,fun j=>(HQ j).gr ((Gr.refl _).alloc _)⟩
 clear he9 GA GB HQ HAW HGR hu hu2 hk2 hk3 hk4 hk5 hu3 u0 k0 k1
 rintro v0 ⟨G,c9,HQ⟩
 obtain ⟨P,hP⟩:∃ Z,gQ k=Z:=⟨_,rfl⟩
 have oP:OnQ k P:=hP ▸ gQ_on h1 h2
 have x1:¬ x<1:=by omega
 have x2:¬ 16<x:=by omega
 have hy:y<0∨(n:Int)≤y:=Or.inl y1
 replace y1:¬ 0≤y:=by omega
 refine wp_v false [.c (.agg (crA (k:Int) (nN k) qc)),.pt (P.1) (P.2.1) P.2.2,.c (.agg (pnt P.1 P.2.1 P.2.2)),.a,.u] [0,1,2] [⟨3,4,27,pnt 0 0 false,fun _=>pnt P.1 P.2.1 P.2.2⟩] ?hs26 ?hv26 ?hf26
 case hs26=>
  exact .cons (.g 32 0 c9 rfl)<|.cons (.k _ fun yy vv hg hh=>RtW.of_pt (rgQ hP qc _ (fun j=>(HQ j).gr hg)))<|.cons (.k (fun yy => #[.agg (ptA (yy 1 0).1 (P.1) (yy 1 0).2 (yy 1 1).1 (P.2.1) (yy 1 1).2 P.2.2)]) fun yy vv hg hh=>RtW.of_c (Rt.c (rout_any _ _ _ _ _ _ _ _ (hh 1 rfl).1 (hh 1 rfl).2))) .nil
 case hv26=>
  refine .cons (.mk (fun _ _ _=>rfl) (fun _ v b H F=>by dsimp only at H ⊢; simp [go_sem,exI,H,F]) zPnt ⟨fkc,fkp bPnt,fkc,fka,fku,trivial⟩) .nil
 intro yw4 v1 hg h4 hV4
 simp only [FW,putFrom,Act.put,lqA,lqB,lqC,wvals,kW,lqD,lqE,Kw.c,Kw.a,Kw.pt,Kw.u]
 obtain ⟨⟨N4_3,V4_3⟩, -⟩:(v0.heap.size≤(yw4 3 0).2∧Vr v1 (yw4 3 0).2 (pnt P.1 P.2.1 P.2.2))∧True:=hV4
 clear h4
 have g4:=hg
 clear hg
 go_upto_region 5 with fail
 refine wp_wS [.c (pv e9 0),.c (.int .i64 (k:Int)),.c (.agg (pnt P.1 P.2.1 P.2.2)),.c (.int .i64 x),.tt n (mF k P),.tt n (mF k P),.tp n (mF k P),.c (.int .i64 0),.tp n (mF k P),.c (.int .i64 0)] [1,2,4,5,6,7,8] ?hs27 ?hf27
 case hs27=>
  exact .cons (.o 3 0 (c9.gr g4) rfl rfl)<|.cons (.g 27 0 V4_3 rfl)<|.cons (.k _ fun yy vv hg hh =>  ((new_tt h1 h2 oP hn hx _)))<|.cons (.m 4)<|.cons (.m 5)<|.cons (.m 5)<|.cons (.m 6) .nil
 intro yw5 v2 hg h5
 simp only [FW,putFrom,Act.put,lqA,lqB,lqC,wvals,kW,lqD,lqE,Kw.c,pv,Kw.tp,Kw.tt]
 have T5_8:Tb v2 (yw5 8 0).2 (yw5 8 1).2 (yw5 8 2).2 n (mF k P):=h5 8
 clear h5
 replace g4:=g4.trans hg
 have g5:=hg
 clear hg
 go_upto_region 6 with fail
 refine wp_wS [.c (pv e9 0),.c (.int .i64 (k:Int)),.c (.agg (pnt P.1 P.2.1 P.2.2)),.tt 1 (mF k P),.tt 1 (mF k P),.tp 1 (mF k P),.c (.int .i64 0),.tp 1 (mF k P),.c (.int .i64 0)] [1,2,3,4,5,6,7] ?hs28 ?hf28
 case hs28=>
  exact .cons (.o 3 0 (c9.gr g4) rfl rfl)<|.cons (.g 27 0 (V4_3.gr g5) rfl)<|.cons (.k _ fun yy vv hg hh =>  ((new_tt h1 h2 oP (n:=1) (by decide) rfl _)))<|.cons (.m 3)<|.cons (.m 4)<|.cons (.m 4)<|.cons (.m 5) .nil
 intro yw6 v3 hg h6
 simp only [FW,putFrom,Act.put,lqA,lqB,lqC,wvals,kW,lqD,lqE,Kw.c,pv,Kw.tp,Kw.tt]
 have T6_7:Tb v3 (yw6 7 0).2 (yw6 7 1).2 (yw6 7 2).2 1 (mF k P):=h6 7
 clear h6
 replace g4:=g4.trans hg
 replace g5:=g5.trans hg
 have g6:=hg
 clear hg
 go_upto_region 7 with fail
 refine wp_wS [.c (.bool true),.c (.bool false),.c (.bool false),.c (.int .i64 0),.c (.int .i64 0),.c (.bool false),.c (.bool false)] [4] ?hs29 ?hf29
 case hs29=>
  refine .cons (.k _ fun yy vv hg hh=>RtW.of_c (Rt.same (num_any _ _))) .nil
 intro yw7 v4 hg h7
 simp only [FW,putFrom,Act.put,lqA,lqB,lqC,wvals,kW,lqD,lqE,Kw.c]
 clear h7
 replace g4:=g4.trans hg
 replace g5:=g5.trans hg
 replace g6:=g6.trans hg
 have g7:=hg
 clear hg
 go_upto_region 9 with fail
 refine wp_v false [.c (pv ((yw6 7 0).2) 0),.c (.tuple #[.agg (pnt 0 0 true),.int .i64 0]),.c (.tuple #[.agg (pnt 0 0 true),.int .i64 0]),.c (.agg (pnt 0 0 true)),.c (.int .i64 0),.a,.u,.c (.int .i64 0)] [1] [⟨5,6,27,pnt 0 0 false,fun _=>pnt 0 0 true⟩] ?hs30 ?hv30 ?hf30
 case hs30=>
  refine .cons (.k _ fun yy vv hg hh=>RtW.of_c (Rt.c (pickM h1 h2 oP (T6_7.gr (g7.trans hg)) (by decide) (i:=0) (by decide) rfl (Z:=inf) (mlQ_zero h1 h2 P)))) .nil
 case hv30=>
  refine .cons (.mk (fun _ _ _=>rfl) (fun _ v b H F=>by dsimp only at H ⊢; simp [go_sem,exI,H,F]) zPnt ⟨fkc,fkc,fkc,fkc,fkc,fka,fku,fkc,trivial⟩) .nil
 intro yw9 v5 hg h9 hV9
 simp only [FW,putFrom,Act.put,lqA,lqB,lqC,wvals,kW,lqD,lqE,Kw.c,pv,Kw.a,Kw.u]
 obtain ⟨⟨N9_5,V9_5⟩, -⟩:(v4.heap.size≤(yw9 5 0).2∧Vr v5 (yw9 5 0).2 (pnt 0 0 true))∧True:=hV9
 clear h9
 replace g4:=g4.trans hg
 replace g5:=g5.trans hg
 replace g6:=g6.trans hg
 replace g7:=g7.trans hg
 clear hg
 go_upto_region 10 with fail
 refine wp_v false [.c (pv ((yw6 7 0).2) 0),.c (.tuple #[.agg (pnt 0 0 false),.int .i64 1603]),.c (.tuple #[.agg (pnt 0 0 false),.int .i64 1603]),.c (.agg (pnt 0 0 false)),.c (.int .i64 1603),.a,.u,.c (.int .i64 1603)] [1] [⟨5,6,27,pnt 0 0 false,fun _=>pnt 0 0 false⟩] ?hs31 ?hv31 ?hf31
 case hs31=>
  refine .cons (.k _ fun yy vv hg hh=>RtW.of_c (Rt.c (pickE (T6_7.gr (g7.trans hg)) (.pointer none) (x:=1) (Or.inr (by decide))))) .nil
 case hv31=>
  refine .cons (.mk (fun _ _ _=>rfl) (fun _ v b H F=>by dsimp only at H ⊢; simp [go_sem,exI,H,F]) zPnt ⟨fkc,fkc,fkc,fkc,fkc,fka,fku,fkc,trivial⟩) .nil
 intro yw10 v6 hg h10 hV10
 simp only [FW,putFrom,Act.put,lqA,lqB,lqC,wvals,kW,lqD,lqE,Kw.c,pv,Kw.a,Kw.u]
 obtain ⟨⟨N10_5,V10_5⟩, -⟩:(v5.heap.size≤(yw10 5 0).2∧Vr v6 (yw10 5 0).2 (pnt 0 0 false))∧True:=hV10
 clear h10
 replace g4:=g4.trans hg
 replace g5:=g5.trans hg
 replace g6:=g6.trans hg
 replace g7:=g7.trans hg
 have g10:=hg
 clear hg
 go_upto_region 11 with fail
 refine wp_wS [.c (.int .i64 x),.c (.bool false),.c (.bool false),.c (.int .i64 x),.c (.bool false),.c (.bool false)] [1,4] ?hs32 ?hf32
 case hs32=>
  exact .cons (.s (.binOp .lss 3 (.const (.int .i64 x)) (.const (.int .i64 1)) 3) rfl fun vv hg=>by simp [go_sem,exI,x1])<|.cons (.s (.binOp .gtr 3 (.const (.int .i64 x)) (.const (.int .i64 16)) 3) rfl fun vv hg=>by simp [go_sem,exI,x2]) .nil
 intro yw11 v7 hg h11
 simp only [FW,putFrom,Act.put,lqA,lqB,lqC,wvals,kW,lqD,lqE,Kw.c]
 clear h11
 replace g10:=g10.trans hg
 replace g4:=g4.trans hg
 replace g5:=g5.trans hg
 replace g6:=g6.trans hg
 replace g7:=g7.trans hg
 have g11:=hg
 clear hg
 go_upto_region 13 with fail
 refine wp_v false [.c (pv ((yw5 8 0).2) 0),.c (.int .i64 y),.c (.tuple #[.agg (pnt 0 0 false),.int .i64 1603]),.c (.tuple #[.agg (pnt 0 0 false),.int .i64 1603]),.c (.agg (pnt 0 0 false)),.c (.int .i64 1603),.a,.u,.c (.int .i64 1603)] [2] [⟨6,7,27,pnt 0 0 false,fun _=>pnt 0 0 false⟩] ?hs33 ?hv33 ?hf33
 case hs33=>
  refine .cons (.k _ fun yy vv hg hh=>RtW.of_c (Rt.c (pickE (T5_8.gr (g6.trans hg)) (.pointer none) hy))) .nil
 case hv33=>
  refine .cons (.mk (fun _ _ _=>rfl) (fun _ v b H F=>by dsimp only at H ⊢; simp [go_sem,exI,H,F]) zPnt ⟨fkc,fkc,fkc,fkc,fkc,fkc,fka,fku,fkc,trivial⟩) .nil
 intro yw13 v8 hg h13 hV13
 simp only [FW,putFrom,Act.put,lqA,lqB,lqC,wvals,kW,lqD,lqE,Kw.c,pv,Kw.a,Kw.u]
 obtain ⟨⟨N13_6,V13_6⟩, -⟩:(v7.heap.size≤(yw13 6 0).2∧Vr v8 (yw13 6 0).2 (pnt 0 0 false))∧True:=hV13
 clear h13
 replace g10:=g10.trans hg
 replace g11:=g11.trans hg
 replace g4:=g4.trans hg
 replace g5:=g5.trans hg
 replace g6:=g6.trans hg
 replace g7:=g7.trans hg
 clear hg
 go_upto_region 14 with fail
 refine wp_wS [.c (.int .i64 0),.c (.int .i64 0),.c (.bool true),.c (.bool true),.c (pv ((yw5 8 0).2) 0),.c (.int .i64 (n:Nat)),.c (.int .i64 x),.c (.bool true),.c (.bool true),.c (.bool true),.c (.agg (pnt 0 0 true)),.c (.agg (pnt 0 0 true)),.c (.bool true),.c (.bool true),.c (.bool true),.c (.int .i64 1603),.c (.int .i64 1603),.c (.bool true),.c (.bool true),.c (.bool true),.c (.int .i64 1603),.c (.int .i64 1603),.c (.bool false),.c (.int .i64 y),.c (.bool false),.c (.bool false),.u,.u,.u,.c (.bool false),.c (.bool true),.c (.bool true),.c (.bool true)] [1,5,7,10,12,16,21,24] ?hs34 ?hf34
 case hs34=>
  exact .cons (.k _ fun yy vv hg hh=>RtW.of_c (Rt.same (num_any _ _)))<|.cons (.k _ fun yy vv hg hh=>RtW.of_c (Rt.c (sizeT (T5_8.gr (g6.trans hg)))))<|.cons (.s (.binOp .eql 3 (.const (.int .i64 (n:Nat))) (.const (.int .i64 x)) 3) rfl fun vv hg=>by simp [go_sem,exI,hx])<|.cons (.g 27 0 (V9_5.gr g10) rfl)<|.cons (.s (.binOp .eql 27 (.const (.agg (pnt 0 0 true))) (.const (.agg (pnt 0 0 true))) 27) rfl fun vv hg=>by simp [go_sem,exI,eqPn,eqN_self])<|.cons (.k _ fun yy vv hg hh=>RtW.of_c (Rt.same (num_any _ _)))<|.cons (.k _ fun yy vv hg hh=>RtW.of_c (Rt.same (num_any _ _)))<|.cons (.s (.binOp .geq 3 (.const (.int .i64 y)) (.const (.int .i64 0)) 3) rfl fun vv hg=>by simp [go_sem,exI,y1]) .nil
 intro yw14 v9 hg h14
 simp only [FW,putFrom,Act.put,lqA,lqB,lqC,wvals,kW,lqD,lqE,Kw.c,pv,Kw.u]
 clear h14
 replace g10:=g10.trans hg
 replace g11:=g11.trans hg
 replace g4:=g4.trans hg
 replace g5:=g5.trans hg
 replace g6:=g6.trans hg
 replace g7:=g7.trans hg
 have g14:=hg
 clear hg
 replace G:=G.trans g4
 replace c9:=c9.gr g4
 replace HQ:=fun k=>(HQ k).gr g4
 replace V4_3:=V4_3.gr g5
 replace T5_8:=T5_8.gr g6
 replace T6_7:=T6_7.gr g7
 replace V9_5:=V9_5.gr g10
 replace V10_5:=V10_5.gr g11
 replace V13_6:=V13_6.gr g14
 clear g10 g11 g14 g4 g5 g6 g7
 go_wp2_with fail
 go_ret
 exact ⟨rfl,G⟩
theorem ltsizes_4 (id:Int) {n:Nat} (hn:1≤n∧n≤16) {x:Int} (hx:(n:Int)=x) {y:Int} (y1:0≤y) (hy:(n:Int)≤y) (w:World):Cg 6 #[.int .i64 id,.int .i64 x,.int .i64 y] w (.bool true):=by
 obtain ⟨u,hu,hu2,hk⟩:=idx_conv id
 have hbd:=idx_bd id
 obtain ⟨k,hkk⟩:∃ k,idx id=k:=⟨_,rfl⟩
 rw [hkk] at hk hbd
 obtain ⟨h1,h2⟩:=hbd
 have u0:(0:Int)≤(u:Int):=by omega
 have hk2:(1:Int)+(u:Int)%15=(k:Int):=by omega
 have hk3:IntKind.i64.wrap ((u:Int)%15)=(u:Int)%15:=by rw [IntKind.wrap_i64]; omega
 have hk4:IntKind.u64.wrap ((u:Int)%15)=(u:Int)%15:=by rw [IntKind.wrap_u64]; omega
 have hk5:(u:Int).tmod 15=(u:Int)%15:=by rw [Int.tmod_eq_emod_of_nonneg (by omega)]
 have k0:(1:Int)≤(k:Int):=by omega
 have k1:(k:Int)≤15:=by omega
 have hu3:id%18446744073709551616=(u:Int):=by rw [← hu,IntKind.wrap_u64]
 clear hkk hk
 have HGR:Hid (∀ w,Calls Tryz.prog 8 #[.int .i64 (k:Int)] w (GetQ k w)):=fun w=>getq_yes k h1 h2 w
 have HAW:Hid (∀ w,Cg 12 #[] w (.bool true)):=fun w=>awake16_any w
 go_enter Tryz.func6,Tryz.ntmps6
 go_upto_region 4 with (first
  | (go_at_call 12; refine (HAW.out _).mono ?_; rintro e WA ⟨rfl,GA⟩)
  | (go_at_call 8; refine (HGR.out _).mono ?_; rintro e WB ⟨qc,rfl,HQ,GB⟩))
 obtain ⟨e9,he9⟩:∃ b,WB.heap.size=b:=⟨_,rfl⟩
 simp only [he9]
 refine gen_w (fun v=>Gr w v∧Vr v e9 (crA (k:Int) (nN k) qc)∧∀ j,Sl v (qc j).1 (nN k j)) ?_ ?_
 ·subst he9
  exact ⟨(GA.trans GB).alloc _,Vr.new _ _ _,fun j=>(HQ j).gr ((Gr.refl _).alloc _)⟩
 clear he9 GA GB HQ HAW HGR hu hu2 hk2 hk3 hk4 hk5 hu3 u0 k0 k1
 rintro v0 ⟨G,c9,HQ⟩
 obtain ⟨P,hP⟩:∃ Z,gQ k=Z:=⟨_,rfl⟩
 have oP:OnQ k P:=hP ▸ gQ_on h1 h2
 have x1:¬ x<1:=by omega
 have x2:¬ 16<x:=by omega
 have y2:¬ y<x:=by omega
 replace hy:y<0∨(n:Int)≤y:=Or.inr hy
 refine wp_v false [.c (.agg (crA (k:Int) (nN k) qc)),.pt (P.1) (P.2.1) P.2.2,.c (.agg (pnt P.1 P.2.1 P.2.2)),.a,.u] [0,1,2] [⟨3,4,27,pnt 0 0 false,fun _=>pnt P.1 P.2.1 P.2.2⟩] ?hs35 ?hv35 ?hf35
 case hs35=>
  exact .cons (.g 32 0 c9 rfl)<|.cons (.k _ fun yy vv hg hh=>RtW.of_pt (rgQ hP qc _ (fun j=>(HQ j).gr hg)))<|.cons (.k (fun yy => #[.agg (ptA (yy 1 0).1 (P.1) (yy 1 0).2 (yy 1 1).1 (P.2.1) (yy 1 1).2 P.2.2)]) fun yy vv hg hh=>RtW.of_c (Rt.c (rout_any _ _ _ _ _ _ _ _ (hh 1 rfl).1 (hh 1 rfl).2))) .nil
 case hv35=>
  refine .cons (.mk (fun _ _ _=>rfl) (fun _ v b H F=>by dsimp only at H ⊢; simp [go_sem,exI,H,F]) zPnt ⟨fkc,fkp bPnt,fkc,fka,fku,trivial⟩) .nil
 intro yw4 v1 hg h4 hV4
 simp only [FW,putFrom,Act.put,lqA,lqB,lqC,wvals,kW,lqD,lqE,Kw.c,Kw.a,Kw.pt,Kw.u]
 obtain ⟨⟨N4_3,V4_3⟩, -⟩:(v0.heap.size≤(yw4 3 0).2∧Vr v1 (yw4 3 0).2 (pnt P.1 P.2.1 P.2.2))∧True:=hV4
 clear h4
 have g4:=hg
 clear hg
 go_upto_region 5 with fail
 refine wp_wS [.c (pv e9 0),.c (.int .i64 (k:Int)),.c (.agg (pnt P.1 P.2.1 P.2.2)),.c (.int .i64 x),.tt n (mF k P),.tt n (mF k P),.tp n (mF k P),.c (.int .i64 0),.tp n (mF k P),.c (.int .i64 0)] [1,2,4,5,6,7,8] ?hs36 ?hf36
 case hs36=>
  exact .cons (.o 3 0 (c9.gr g4) rfl rfl)<|.cons (.g 27 0 V4_3 rfl)<|.cons (.k _ fun yy vv hg hh =>  ((new_tt h1 h2 oP hn hx _)))<|.cons (.m 4)<|.cons (.m 5)<|.cons (.m 5)<|.cons (.m 6) .nil
 intro yw5 v2 hg h5
 simp only [FW,putFrom,Act.put,lqA,lqB,lqC,wvals,kW,lqD,lqE,Kw.c,pv,Kw.tp,Kw.tt]
 have T5_8:Tb v2 (yw5 8 0).2 (yw5 8 1).2 (yw5 8 2).2 n (mF k P):=h5 8
 clear h5
 replace g4:=g4.trans hg
 have g5:=hg
 clear hg
 go_upto_region 6 with fail
 refine wp_wS [.c (pv e9 0),.c (.int .i64 (k:Int)),.c (.agg (pnt P.1 P.2.1 P.2.2)),.tt 1 (mF k P),.tt 1 (mF k P),.tp 1 (mF k P),.c (.int .i64 0),.tp 1 (mF k P),.c (.int .i64 0)] [1,2,3,4,5,6,7] ?hs37 ?hf37
 case hs37=>
  exact .cons (.o 3 0 (c9.gr g4) rfl rfl)<|.cons (.g 27 0 (V4_3.gr g5) rfl)<|.cons (.k _ fun yy vv hg hh =>  ((new_tt h1 h2 oP (n:=1) (by decide) rfl _)))<|.cons (.m 3)<|.cons (.m 4)<|.cons (.m 4)<|.cons (.m 5) .nil
 intro yw6 v3 hg h6
 simp only [FW,putFrom,Act.put,lqA,lqB,lqC,wvals,kW,lqD,lqE,Kw.c,pv,Kw.tp,Kw.tt]
 have T6_7:Tb v3 (yw6 7 0).2 (yw6 7 1).2 (yw6 7 2).2 1 (mF k P):=h6 7
 clear h6
 replace g4:=g4.trans hg
 replace g5:=g5.trans hg
 have g6:=hg
 clear hg
 go_upto_region 7 with fail
 refine wp_wS [.c (.bool true),.c (.bool false),.c (.bool false),.c (.int .i64 0),.c (.int .i64 0),.c (.bool false),.c (.bool false)] [4] ?hs38 ?hf38
 case hs38=>
  refine .cons (.k _ fun yy vv hg hh=>RtW.of_c (Rt.same (num_any _ _))) .nil
 intro yw7 v4 hg h7
 simp only [FW,putFrom,Act.put,lqA,lqB,lqC,wvals,kW,lqD,lqE,Kw.c]
 clear h7
 replace g4:=g4.trans hg
 replace g5:=g5.trans hg
 replace g6:=g6.trans hg
 have g7:=hg
 clear hg
 go_upto_region 9 with fail
 refine wp_v false [.c (pv ((yw6 7 0).2) 0),.c (.tuple #[.agg (pnt 0 0 true),.int .i64 0]),.c (.tuple #[.agg (pnt 0 0 true),.int .i64 0]),.c (.agg (pnt 0 0 true)),.c (.int .i64 0),.a,.u,.c (.int .i64 0)] [1] [⟨5,6,27,pnt 0 0 false,fun _=>pnt 0 0 true⟩] ?hs39 ?hv39 ?hf39
 case hs39=>
  refine .cons (.k _ fun yy vv hg hh=>RtW.of_c (Rt.c (pickM h1 h2 oP (T6_7.gr (g7.trans hg)) (by decide) (i:=0) (by decide) rfl (Z:=inf) (mlQ_zero h1 h2 P)))) .nil
 case hv39=>
  refine .cons (.mk (fun _ _ _=>rfl) (fun _ v b H F=>by dsimp only at H ⊢; simp [go_sem,exI,H,F]) zPnt ⟨fkc,fkc,fkc,fkc,fkc,fka,fku,fkc,trivial⟩) .nil
 intro yw9 v5 hg h9 hV9
 simp only [FW,putFrom,Act.put,lqA,lqB,lqC,wvals,kW,lqD,lqE,Kw.c,pv,Kw.a,Kw.u]
 obtain ⟨⟨N9_5,V9_5⟩, -⟩:(v4.heap.size≤(yw9 5 0).2∧Vr v5 (yw9 5 0).2 (pnt 0 0 true))∧True:=hV9
 clear h9
 replace g4:=g4.trans hg
 replace g5:=g5.trans hg
 replace g6:=g6.trans hg
 replace g7:=g7.trans hg
 clear hg
 go_upto_region 10 with fail
 refine wp_v false [.c (pv ((yw6 7 0).2) 0),.c (.tuple #[.agg (pnt 0 0 false),.int .i64 1603]),.c (.tuple #[.agg (pnt 0 0 false),.int .i64 1603]),.c (.agg (pnt 0 0 false)),.c (.int .i64 1603),.a,.u,.c (.int .i64 1603)] [1] [⟨5,6,27,pnt 0 0 false,fun _=>pnt 0 0 false⟩] ?hs40 ?hv40 ?hf40
 case hs40=>
  refine .cons (.k _ fun yy vv hg hh=>RtW.of_c (Rt.c (pickE (T6_7.gr (g7.trans hg)) (.pointer none) (x:=1) (Or.inr (by decide))))) .nil
 case hv40=>
  refine .cons (.mk (fun _ _ _=>rfl) (fun _ v b H F=>by dsimp only at H ⊢; simp [go_sem,exI,H,F]) zPnt ⟨fkc,fkc,fkc,fkc,fkc,fka,fku,fkc,trivial⟩) .nil
 intro yw10 v6 hg h10 hV10
 simp only [FW,putFrom,Act.put,lqA,lqB,lqC,wvals,kW,lqD,lqE,Kw.c,pv,Kw.a,Kw.u]
 obtain ⟨⟨N10_5,V10_5⟩, -⟩:(v5.heap.size≤(yw10 5 0).2∧Vr v6 (yw10 5 0).2 (pnt 0 0 false))∧True:=hV10
 clear h10
 replace g4:=g4.trans hg
 replace g5:=g5.trans hg
 replace g6:=g6.trans hg
 replace g7:=g7.trans hg
 have g10:=hg
 clear hg
 go_upto_region 11 with fail
 refine wp_wS [.c (.int .i64 x),.c (.bool false),.c (.bool false),.c (.int .i64 x),.c (.bool false),.c (.bool false)] [1,4] ?hs41 ?hf41
 case hs41=>
  exact .cons (.s (.binOp .lss 3 (.const (.int .i64 x)) (.const (.int .i64 1)) 3) rfl fun vv hg=>by simp [go_sem,exI,x1])<|.cons (.s (.binOp .gtr 3 (.const (.int .i64 x)) (.const (.int .i64 16)) 3) rfl fun vv hg=>by simp [go_sem,exI,x2]) .nil
 intro yw11 v7 hg h11
 simp only [FW,putFrom,Act.put,lqA,lqB,lqC,wvals,kW,lqD,lqE,Kw.c]
 clear h11
 replace g10:=g10.trans hg
 replace g4:=g4.trans hg
 replace g5:=g5.trans hg
 replace g6:=g6.trans hg
 replace g7:=g7.trans hg
 have g11:=hg
 clear hg
 go_upto_region 13 with fail
 refine wp_v false [.c (pv ((yw5 8 0).2) 0),.c (.int .i64 y),.c (.tuple #[.agg (pnt 0 0 false),.int .i64 1603]),.c (.tuple #[.agg (pnt 0 0 false),.int .i64 1603]),.c (.agg (pnt 0 0 false)),.c (.int .i64 1603),.a,.u,.c (.int .i64 1603)] [2] [⟨6,7,27,pnt 0 0 false,fun _=>pnt 0 0 false⟩] ?hs42 ?hv42 ?hf42
 case hs42=>
  refine .cons (.k _ fun yy vv hg hh=>RtW.of_c (Rt.c (pickE (T5_8.gr (g6.trans hg)) (.pointer none) hy))) .nil
 case hv42=>
  refine .cons (.mk (fun _ _ _=>rfl) (fun _ v b H F=>by dsimp only at H ⊢; simp [go_sem,exI,H,F]) zPnt ⟨fkc,fkc,fkc,fkc,fkc,fkc,fka,fku,fkc,trivial⟩) .nil
 intro yw13 v8 hg h13 hV13
 simp only [FW,putFrom,Act.put,lqA,lqB,lqC,wvals,kW,lqD,lqE,Kw.c,pv,Kw.a,Kw.u]
 obtain ⟨⟨N13_6,V13_6⟩, -⟩:(v7.heap.size≤(yw13 6 0).2∧Vr v8 (yw13 6 0).2 (pnt 0 0 false))∧True:=hV13
 clear h13
 replace g10:=g10.trans hg
 replace g11:=g11.trans hg
 replace g4:=g4.trans hg
 replace g5:=g5.trans hg
 replace g6:=g6.trans hg
 replace g7:=g7.trans hg
 clear hg
 go_upto_region 14 with fail
 refine wp_wS [.c (.int .i64 0),.c (.int .i64 0),.c (.bool true),.c (.bool true),.c (pv ((yw5 8 0).2) 0),.c (.int .i64 (n:Nat)),.c (.int .i64 x),.c (.bool true),.c (.bool true),.c (.bool true),.c (.agg (pnt 0 0 true)),.c (.agg (pnt 0 0 true)),.c (.bool true),.c (.bool true),.c (.bool true),.c (.int .i64 1603),.c (.int .i64 1603),.c (.bool true),.c (.bool true),.c (.bool true),.c (.int .i64 1603),.c (.int .i64 1603),.c (.bool false),.c (.int .i64 y),.c (.bool true),.c (.bool true),.c (.int .i64 y),.c (.int .i64 x),.c (.bool false),.c (.bool false),.c (.bool true),.c (.bool true),.c (.bool true)] [1,5,7,10,12,16,21,24,28] ?hs43 ?hf43
 case hs43=>
  exact .cons (.k _ fun yy vv hg hh=>RtW.of_c (Rt.same (num_any _ _)))<|.cons (.k _ fun yy vv hg hh=>RtW.of_c (Rt.c (sizeT (T5_8.gr (g6.trans hg)))))<|.cons (.s (.binOp .eql 3 (.const (.int .i64 (n:Nat))) (.const (.int .i64 x)) 3) rfl fun vv hg=>by simp [go_sem,exI,hx])<|.cons (.g 27 0 (V9_5.gr g10) rfl)<|.cons (.s (.binOp .eql 27 (.const (.agg (pnt 0 0 true))) (.const (.agg (pnt 0 0 true))) 27) rfl fun vv hg=>by simp [go_sem,exI,eqPn,eqN_self])<|.cons (.k _ fun yy vv hg hh=>RtW.of_c (Rt.same (num_any _ _)))<|.cons (.k _ fun yy vv hg hh=>RtW.of_c (Rt.same (num_any _ _)))<|.cons (.s (.binOp .geq 3 (.const (.int .i64 y)) (.const (.int .i64 0)) 3) rfl fun vv hg=>by simp [go_sem,exI,y1])<|.cons (.s (.binOp .lss 3 (.const (.int .i64 y)) (.const (.int .i64 x)) 3) rfl fun vv hg=>by simp [go_sem,exI,y2]) .nil
 intro yw14 v9 hg h14
 simp only [FW,putFrom,Act.put,lqA,lqB,lqC,wvals,kW,lqD,lqE,Kw.c,pv]
 clear h14
 replace g10:=g10.trans hg
 replace g11:=g11.trans hg
 replace g4:=g4.trans hg
 replace g5:=g5.trans hg
 replace g6:=g6.trans hg
 replace g7:=g7.trans hg
 have g14:=hg
 clear hg
 replace G:=G.trans g4
 replace c9:=c9.gr g4
 replace HQ:=fun k=>(HQ k).gr g4
 replace V4_3:=V4_3.gr g5
 replace T5_8:=T5_8.gr g6
 replace T6_7:=T6_7.gr g7
 replace V9_5:=V9_5.gr g10
 replace V10_5:=V10_5.gr g11
 replace V13_6:=V13_6.gr g14
 clear g10 g11 g14 g4 g5 g6 g7
 go_wp2_with fail
 go_ret
 exact ⟨rfl,G⟩
theorem ltsizes_any (id x y:Int) (w:World):Cg 6 #[.int .i64 id,.int .i64 x,.int .i64 y] w (.bool true):=by
 by_cases x1:x<1
 ·exact ltsizes_0 id x x1 y w
 by_cases x2:16<x
 ·exact ltsizes_1 id x x1 x2 y w
 have hx:(x.toNat:Int)=x:=by omega
 have hn:1≤x.toNat∧x.toNat≤16:=by omega
 by_cases y1:y<0
 ·exact ltsizes_3 id hn hx y1 w
 by_cases y2:y<x
 ·exact ltsizes_2 id hn hx (i:=y.toNat) (by omega) (by omega) w
 ·exact ltsizes_4 id hn hx (by omega) (by omega) w
end
end
end Go.Proofs.YtikilbpfhijocaaGreat