import Derived.Test.YtikilbpfhijocaaGreatXTUF
import Derived.Test.YtikilbpfhijocaaGreatXTCC
namespace Go.Proofs.YtikilbpfhijocaaGreat
open Go.RowKit
set_option maxRecDepth 100000
set_option maxHeartbeats 8000000
section
attribute [local go_sem ↓] loadNat_is loadArr_is loadWide_is loadArrW_is storeNat_is storeWide_is
attribute [local go_sem] loadNat loadArr loadWide loadArrW storeNat storeWide idxArr fold9 fold18 nw_size nw_elem pre_self pre_1 pre_2 pre_3 pre_4 pre_5 pre_6 pre_7 pre_8 pre_9 pre_10 pre_11 pre_12 pre_13 pre_14 pre_15 pre_16 pre_17 pre_18 pre_19 pre_20 pre_21 pre_22 pre_23 pre_24 pre_25 pre_26 pre_27 pre_28 pre_29 pre_30 pre_31 pre_32 pre_33 pre_34 pre_35 pre_36 pre_37 pre_38 pre_39 pre_40 gro_size gro_drew gro_drewN drew_gro drewN_gro gro_gro blk_gro frz_gro blk_drew frz_drew blk_drewN frz_drewN blk_alloc_at frz_alloc_at blk_alloc frz_alloc cell_gro frozen_gro cell_alloc_pre frozen_alloc_pre setCell_drewN alloc_drewN setBlk_drew setBlk_drewN setBlk_alloc_at setBlk_alloc setBlk_gro setCell_gro setCell_alloc_pre size_setBlk size_setCell
section
attribute [local go_sem] ppre_1 ppre_2 ppre_3 ppre_4 ppre_5 ppre_6
attribute [local go_sem ↓] bsl_is loadC_is storeC_is loadPt_is storePt_is zvPt_is buildPt_is loadPn_is storePn_is zvPn_is loadCu_is storeCu_is zvCu_is buildCu_is buildPn_is Go.wp_at_zero Go.wp_at_succ
attribute [local go_sem] loadC storeC0 storeCr crA_size loadPt storePt zvPt ptA_size loadPn storePn zvPn pnt_size loadCu storeCu zvCu cu_size buildCu0 buildPnI buildPn2 loadCP loadCA loadCB loadCN loadCG loadCX loadCY cu_P cu_A cu_B cu_N cu_G cu_X cu_Y frz_setBlk blk_setBlk setBlk_setBlk blk_other
theorem ltnil_0 (id z:Int) (y:Int) (y1:y<0) (w:World):Cg 7 #[.int .i64 id,.int .i64 z,.int .i64 y] w (.bool true):=by
 obtain ⟨u,hu,hu2,hk⟩:=idx_conv id
 have hbd:=idx_bd id
 obtain ⟨k,hkk⟩:∃ k,idx id=k:=⟨_,rfl⟩
 rw [hkk] at hk hbd
 obtain ⟨h1,h2⟩:=hbd
 have u0:(0:Int)≤(u:Int):=by omega
 have hk2:(1:Int)+(u:Int)%15=(k:Int):=by omega
 have hk3:IntKind.i64.wrap ((u:Int)%15)=(u:Int)%15:=by rw [IntKind.wrap_i64]; omega
 have hk4:IntKind.u64.wrap ((u:Int)%15)=(u:Int)%15:=by rw [IntKind.wrap_u64]; omega
 have hk5:(u:Int).tmod 15=(u:Int)%15:=by rw [Int.tmod_eq_emod_of_nonneg (by omega)]
 have k0:(1:Int)≤(k:Int):=by omega
 have k1:(k:Int)≤15:=by omega
 have hu3:id%18446744073709551616=(u:Int):=by rw [← hu,IntKind.wrap_u64]
 clear hkk hk
 have HGR:Hid (∀ w,Calls Tryz.prog 8 #[.int .i64 (k:Int)] w (GetQ k w)):=fun w=>getq_yes k h1 h2 w
 have HAW:Hid (∀ w,Cg 12 #[] w (.bool true)):=fun w=>awake16_any w
 go_enter Tryz.func7,Tryz.ntmps7
 go_upto_region 4 with (first
  | (go_at_call 12; refine (HAW.out _).mono ?_; rintro e WA ⟨rfl,GA⟩)
  | (go_at_call 8; refine (HGR.out _).mono ?_; rintro e WB ⟨qc,rfl,HQ,GB⟩))
 obtain ⟨e9,he9⟩:∃ b,WB.heap.size=b:=⟨_,rfl⟩
 simp only [he9]
 refine gen_w (fun v=>Gr w v∧Vr v e9 (crA (k:Int) (nN k) qc)∧∀ j,Sl v (qc j).1 (nN k j)) ?_ ?_
 ·subst he9
  exact ⟨(GA.trans GB).alloc _,Vr.new _ _ _,fun j=>(HQ j).gr ((Gr.refl _).alloc _)⟩
 clear he9 GA GB HQ HAW HGR hu hu2 hk2 hk3 hk4 hk5 hu3 u0 k0 k1
 rintro v0 ⟨G,c9,HQ⟩
 obtain ⟨P,hP⟩:∃ Z,gQ k=Z:=⟨_,rfl⟩
 have oP:OnQ k P:=hP ▸ gQ_on h1 h2
 obtain ⟨a,la,e1⟩:=and_15 z
 obtain ⟨x,e2⟩:∃ x,IntKind.i64.wrap (1+(a:Int))=x:=⟨_,rfl⟩
 have hx:((a+1:Nat):Int)=x:=by rw [← e2,IntKind.wrap_i64]; omega
 obtain ⟨n,hna⟩:∃ n,a+1=n:=⟨_,rfl⟩
 rw [hna] at hx
 have hn:1≤n∧n≤16:=by omega
 have hy:y<0∨(n:Int)≤y:=Or.inl y1
 clear hna la
 refine wp_wS [.c (.int .i64 z),.c (.int .i64 (a:Int)),.c (.int .i64 x),.c (.int .i64 x)] [1,2] ?hs1 ?hf1
 case hs1=>
  exact .cons (.s (.binOp .and 3 (.const (.int .i64 z)) (.const (.int .i64 15)) 3) rfl fun vv hg=>by simp [go_sem,exI,e1])<|.cons (.s (.binOp .add 3 (.const (.int .i64 1)) (.const (.int .i64 (a:Int))) 3) rfl fun vv hg=>by simp [go_sem,exI,e2]) .nil
 intro yw4 v1 hg h4
 simp only [FW,putFrom,Act.put,lqA,lqB,lqC,wvals,kW,lqD,lqE,Kw.c]
 clear h4
 have g4:=hg
 clear hg
 go_upto_region 5 with fail
 refine wp_w [.c (pv e9 0),.c (.int .i64 (k:Int)),.c (.agg (crA (k:Int) (nN k) qc)),.pt (P.1) (P.2.1) P.2.2,.c (.agg (pnt P.1 P.2.1 P.2.2)),.c (.int .i64 x),.tt n (mF k P),.tt n (mF k P),.tp n (mF k P),.c (.int .i64 0),.tp n (mF k P),.c (.int .i64 0)] [1,2,3,4,6,7,8,9,10] ?hs2 ?hf2
 case hs2=>
  exact .cons (.o 3 0 (c9.gr g4) rfl rfl)<|.cons (.g 32 0 (c9.gr g4) rfl)<|.cons (.k _ fun yy vv hg hh=>RtW.of_pt (rgQ hP qc _ (fun j=>(HQ j).gr (g4.trans hg))))<|.cons (.k (fun yy => #[.agg (ptA (yy 3 0).1 (P.1) (yy 3 0).2 (yy 3 1).1 (P.2.1) (yy 3 1).2 P.2.2)]) fun yy vv hg hh=>RtW.of_c (Rt.c (rout_any _ _ _ _ _ _ _ _ (hh 3 rfl).1 (hh 3 rfl).2)))<|.cons (.k _ fun yy vv hg hh =>  ((new_tt h1 h2 oP hn hx _)))<|.cons (.m 6)<|.cons (.m 7)<|.cons (.m 7)<|.cons (.m 8) .nil
 intro yw5 v2 hg h5
 simp only [FW,putFrom,Act.put,lqA,lqB,lqC,wvals,kW,lqD,lqE,Kw.c,pv,Kw.pt,Kw.tp,Kw.tt]
 have T5_10:Tb v2 (yw5 10 0).2 (yw5 10 1).2 (yw5 10 2).2 n (mF k P):=h5 10
 clear h5
 replace g4:=g4.trans hg
 clear hg
 go_upto_region 6 with fail
 refine wp_wS [.c (.bool true),.c (.bool false),.c (.bool false),.c (.int .i64 0),.c (.int .i64 0),.c (.bool false),.c (.bool false)] [4] ?hs3 ?hf3
 case hs3=>
  refine .cons (.k _ fun yy vv hg hh=>RtW.of_c (Rt.same (num_any _ _))) .nil
 intro yw6 v3 hg h6
 simp only [FW,putFrom,Act.put,lqA,lqB,lqC,wvals,kW,lqD,lqE,Kw.c]
 clear h6
 replace g4:=g4.trans hg
 have g6:=hg
 clear hg
 replace G:=G.trans g4
 replace c9:=c9.gr g4
 replace HQ:=fun k=>(HQ k).gr g4
 replace T5_10:=T5_10.gr g6
 clear g4 g6
 go_upto_region 9 with (go_at_call 15; refine (new_any _).mono ?_; rintro e w' ⟨rfl,rfl⟩)
 refine gen_w (fun v=>Gr v3 v∧Tr v (v3.heap.size) (.slice none 0 0) []) ⟨grA,Tr.new _⟩ ?_
 rintro vr ⟨gU,TR0⟩
 go_upto_region 9 with fail
 refine wp_v false [.c (pv ((yw5 10 0).2) 0),.c (pv (v3.heap.size) 0),.c (.int .i64 y),.c (.tuple #[.agg (pnt 0 0 false),.int .i64 1603]),.c (.tuple #[.agg (pnt 0 0 false),.int .i64 1603]),.c (.agg (pnt 0 0 false)),.c (.int .i64 1603),.a,.u,.c (.int .i64 1603)] [3] [⟨7,8,27,pnt 0 0 false,fun _=>pnt 0 0 false⟩] ?hs4 ?hv4 ?hf4
 case hs4=>
  refine .cons (.k _ fun yy vv hg hh=>RtW.of_c (Rt.c (pickE (T5_10.gr (gU.trans hg)) (.pointer (some ⟨v3.heap.size,0,none⟩)) hy))) .nil
 case hv4=>
  refine .cons (.mk (fun _ _ _=>rfl) (fun _ v b H F=>by dsimp only at H ⊢; simp [go_sem,exI,H,F]) zPnt ⟨fkc,fkc,fkc,fkc,fkc,fkc,fkc,fka,fku,fkc,trivial⟩) .nil
 intro yw9 v4 hg h9 hV9
 simp only [FW,putFrom,Act.put,lqA,lqB,lqC,wvals,kW,lqD,lqE,Kw.c,pv,Kw.a,Kw.u]
 obtain ⟨⟨N9_7,V9_7⟩, -⟩:(vr.heap.size≤(yw9 7 0).2∧Vr v4 (yw9 7 0).2 (pnt 0 0 false))∧True:=hV9
 clear h9
 replace gU:=gU.trans hg
 have g9:=hg
 clear hg
 go_upto_region 10 with fail
 refine wp_v false [.c (pv ((yw5 10 0).2) 0),.c (.int .i64 y),.c (.tuple #[.agg (pnt 0 0 false),.int .i64 1603]),.c (.tuple #[.agg (pnt 0 0 false),.int .i64 1603]),.c (.agg (pnt 0 0 false)),.c (.int .i64 1603),.a,.u,.c (.int .i64 1603)] [2] [⟨6,7,27,pnt 0 0 false,fun _=>pnt 0 0 false⟩] ?hs5 ?hv5 ?hf5
 case hs5=>
  refine .cons (.k _ fun yy vv hg hh=>RtW.of_c (Rt.c (pickE (T5_10.gr (gU.trans hg)) (Value.pointer none) hy))) .nil
 case hv5=>
  refine .cons (.mk (fun _ _ _=>rfl) (fun _ v b H F=>by dsimp only at H ⊢; simp [go_sem,exI,H,F]) zPnt ⟨fkc,fkc,fkc,fkc,fkc,fkc,fka,fku,fkc,trivial⟩) .nil
 intro yw10 v5 hg h10 hV10
 simp only [FW,putFrom,Act.put,lqA,lqB,lqC,wvals,kW,lqD,lqE,Kw.c,pv,Kw.a,Kw.u]
 obtain ⟨⟨N10_6,V10_6⟩, -⟩:(v4.heap.size≤(yw10 6 0).2∧Vr v5 (yw10 6 0).2 (pnt 0 0 false))∧True:=hV10
 clear h10
 replace g9:=g9.trans hg
 replace gU:=gU.trans hg
 have g10:=hg
 clear hg
 go_upto_region 11 with fail
 refine wp_wS [.c (.int .i64 y),.c (.bool true),.c (.bool true),.u,.u,.u,.c (.bool true)] [1] ?hs6 ?hf6
 case hs6=>
  refine .cons (.s (.binOp .lss 3 (.const (.int .i64 y)) (.const (.int .i64 0)) 3) rfl fun vv hg=>by simp [go_sem,exI,y1]) .nil
 intro yw11 v6 hg h11
 simp only [FW,putFrom,Act.put,lqA,lqB,lqC,wvals,kW,lqD,lqE,Kw.c,Kw.u]
 clear h11
 replace g10:=g10.trans hg
 replace g9:=g9.trans hg
 replace gU:=gU.trans hg
 have g11:=hg
 clear hg
 go_upto_region 12 with fail
 refine wp_wS [.c (.int .i64 1603),.c (.int .i64 1603),.c (.bool true),.c (.bool true),.c (.int .i64 1603),.c (.int .i64 1603),.c (.bool true),.c (.bool true),.c (.bool true),.c (pv (v3.heap.size) 0),.c (.int .i64 0),.c (.bool true),.c (.bool true),.c (.bool true),.c (.agg (pnt 0 0 false)),.c (.agg (pnt 0 0 false)),.c (.bool true),.c (.bool true),.c (.bool true)] [1,5,10,14,15,16] ?hs7 ?hf7
 case hs7=>
  exact .cons (.k _ fun yy vv hg hh=>RtW.of_c (Rt.same (num_any _ _)))<|.cons (.k _ fun yy vv hg hh=>RtW.of_c (Rt.same (num_any _ _)))<|.cons (.k _ fun yy vv hg hh=>RtW.of_c (Rt.same (lenT (TR0.gr (g9.trans hg)) rfl)))<|.cons (.g 27 0 (V9_7.gr g10) rfl)<|.cons (.g 27 0 (V10_6.gr g11) rfl)<|.cons (.s (.binOp .eql 27 (.const (.agg (pnt 0 0 false))) (.const (.agg (pnt 0 0 false))) 27) rfl fun vv hg=>by simp [go_sem,exI,eqPn,eqN_self]) .nil
 intro yw12 v7 hg h12
 simp only [FW,putFrom,Act.put,lqA,lqB,lqC,wvals,kW,lqD,lqE,Kw.c,pv]
 clear h12
 replace g10:=g10.trans hg
 replace g11:=g11.trans hg
 replace g9:=g9.trans hg
 replace gU:=gU.trans hg
 clear hg
 replace G:=G.trans gU
 replace c9:=c9.gr gU
 replace HQ:=fun k=>(HQ k).gr gU
 replace T5_10:=T5_10.gr gU
 replace TR0:=TR0.gr g9
 replace V9_7:=V9_7.gr g10
 replace V10_6:=V10_6.gr g11
 clear g10 g11 g9 gU
 go_wp2_with fail
 go_ret
 exact ⟨rfl,G⟩
theorem ltnil_1 (id z:Int) (y:Int) (y1:¬ y<0) (hy:∀ a:Nat,a<16→bits .and .i64 z 15=(a:Int)→((a+1:Nat):Int)≤y) (w:World):Cg 7 #[.int .i64 id,.int .i64 z,.int .i64 y] w (.bool true):=by
 obtain ⟨u,hu,hu2,hk⟩:=idx_conv id
 have hbd:=idx_bd id
 obtain ⟨k,hkk⟩:∃ k,idx id=k:=⟨_,rfl⟩
 rw [hkk] at hk hbd
 obtain ⟨h1,h2⟩:=hbd
 have u0:(0:Int)≤(u:Int):=by omega
 have hk2:(1:Int)+(u:Int)%15=(k:Int):=by omega
 have hk3:IntKind.i64.wrap ((u:Int)%15)=(u:Int)%15:=by rw [IntKind.wrap_i64]; omega
 have hk4:IntKind.u64.wrap ((u:Int)%15)=(u:Int)%15:=by rw [IntKind.wrap_u64]; omega
 have hk5:(u:Int).tmod 15=(u:Int)%15:=by rw [Int.tmod_eq_emod_of_nonneg (by omega)]
 have k0:(1:Int)≤(k:Int):=by omega
 have k1:(k:Int)≤15:=by omega
 have hu3:id%18446744073709551616=(u:Int):=by rw [← hu,IntKind.wrap_u64]
 clear hkk hk
 have HGR:Hid (∀ w,Calls Tryz.prog 8 #[.int .i64 (k:Int)] w (GetQ k w)):=fun w=>getq_yes k h1 h2 w
 have HAW:Hid (∀ w,Cg 12 #[] w (.bool true)):=fun w=>awake16_any w
 go_enter Tryz.func7,Tryz.ntmps7
 go_upto_region 4 with (first
  | (go_at_call 12; refine (HAW.out _).mono ?_; rintro e WA ⟨rfl,GA⟩)
  | (go_at_call 8; refine (HGR.out _).mono ?_; rintro e WB ⟨qc,rfl,HQ,GB⟩))
 obtain ⟨e9,he9⟩:∃ b,WB.heap.size=b:=⟨_,rfl⟩
 simp only [he9]
 refine gen_w (fun v=>Gr w v∧Vr v e9 (crA (k:Int) (nN k) qc)∧∀ j,Sl v (qc j).1 (nN k j)) ?_ ?_
 ·subst he9
  exact ⟨(GA.trans GB).alloc _,Vr.new _ _ _,fun j=>(HQ j).gr ((Gr.refl _).alloc _)⟩
 clear he9 GA GB HQ HAW HGR hu hu2 hk2 hk3 hk4 hk5 hu3 u0 k0 k1
 rintro v0 ⟨G,c9,HQ⟩
 obtain ⟨P,hP⟩:∃ Z,gQ k=Z:=⟨_,rfl⟩
 have oP:OnQ k P:=hP ▸ gQ_on h1 h2
 obtain ⟨a,la,e1⟩:=and_15 z
 obtain ⟨x,e2⟩:∃ x,IntKind.i64.wrap (1+(a:Int))=x:=⟨_,rfl⟩
 have hx:((a+1:Nat):Int)=x:=by rw [← e2,IntKind.wrap_i64]; omega
 obtain ⟨n,hna⟩:∃ n,a+1=n:=⟨_,rfl⟩
 rw [hna] at hx
 have hn:1≤n∧n≤16:=by omega
 replace hy:=hy a la e1
 rw [hna] at hy
 have y2:x≤y:=by omega
 replace hy:y<0∨(n:Int)≤y:=Or.inr hy
 clear hna la
 refine wp_wS [.c (.int .i64 z),.c (.int .i64 (a:Int)),.c (.int .i64 x),.c (.int .i64 x)] [1,2] ?hs8 ?hf8
 case hs8=>
  exact .cons (.s (.binOp .and 3 (.const (.int .i64 z)) (.const (.int .i64 15)) 3) rfl fun vv hg=>by simp [go_sem,exI,e1])<|.cons (.s (.binOp .add 3 (.const (.int .i64 1)) (.const (.int .i64 (a:Int))) 3) rfl fun vv hg=>by simp [go_sem,exI,e2]) .nil
 intro yw4 v1 hg h4
 simp only [FW,putFrom,Act.put,lqA,lqB,lqC,wvals,kW,lqD,lqE,Kw.c]
 clear h4
 have g4:=hg
 clear hg
 go_upto_region 5 with fail
 refine wp_w [.c (pv e9 0),.c (.int .i64 (k:Int)),.c (.agg (crA (k:Int) (nN k) qc)),.pt (P.1) (P.2.1) P.2.2,.c (.agg (pnt P.1 P.2.1 P.2.2)),.c (.int .i64 x),.tt n (mF k P),.tt n (mF k P),.tp n (mF k P),.c (.int .i64 0),.tp n (mF k P),.c (.int .i64 0)] [1,2,3,4,6,7,8,9,10] ?hs9 ?hf9
 case hs9=>
  exact .cons (.o 3 0 (c9.gr g4) rfl rfl)<|.cons (.g 32 0 (c9.gr g4) rfl)<|.cons (.k _ fun yy vv hg hh=>RtW.of_pt (rgQ hP qc _ (fun j=>(HQ j).gr (g4.trans hg))))<|.cons (.k (fun yy => #[.agg (ptA (yy 3 0).1 (P.1) (yy 3 0).2 (yy 3 1).1 (P.2.1) (yy 3 1).2 P.2.2)]) fun yy vv hg hh=>RtW.of_c (Rt.c (rout_any _ _ _ _ _ _ _ _ (hh 3 rfl).1 (hh 3 rfl).2)))<|.cons (.k _ fun yy vv hg hh =>  ((new_tt h1 h2 oP hn hx _)))<|.cons (.m 6)<|.cons (.m 7)<|.cons (.m 7)<|.cons (.m 8) .nil
 intro yw5 v2 hg h5
 simp only [FW,putFrom,Act.put,lqA,lqB,lqC,wvals,kW,lqD,lqE,Kw.c,pv,Kw.pt,Kw.tp,Kw.tt]
 have T5_10:Tb v2 (yw5 10 0).2 (yw5 10 1).2 (yw5 10 2).2 n (mF k P):=h5 10
 clear h5
 replace g4:=g4.trans hg
 clear hg
 go_upto_region 6 with fail
 refine wp_wS [.c (.bool true),.c (.bool false),.c (.bool false),.c (.int .i64 0),.c (.int .i64 0),.c (.bool false),.c (.bool false)] [4] ?hs10 ?hf10
 case hs10=>
  refine .cons (.k _ fun yy vv hg hh=>RtW.of_c (Rt.same (num_any _ _))) .nil
 intro yw6 v3 hg h6
 simp only [FW,putFrom,Act.put,lqA,lqB,lqC,wvals,kW,lqD,lqE,Kw.c]
 clear h6
 replace g4:=g4.trans hg
 have g6:=hg
 clear hg
 replace G:=G.trans g4
 replace c9:=c9.gr g4
 replace HQ:=fun k=>(HQ k).gr g4
 replace T5_10:=T5_10.gr g6
 clear g4 g6
 go_upto_region 9 with (go_at_call 15; refine (new_any _).mono ?_; rintro e w' ⟨rfl,rfl⟩)
 refine gen_w (fun v=>Gr v3 v∧Tr v (v3.heap.size) (.slice none 0 0) []) ⟨grA,Tr.new _⟩ ?_
 rintro vr ⟨gU,TR0⟩
 go_upto_region 9 with fail
 refine wp_v false [.c (pv ((yw5 10 0).2) 0),.c (pv (v3.heap.size) 0),.c (.int .i64 y),.c (.tuple #[.agg (pnt 0 0 false),.int .i64 1603]),.c (.tuple #[.agg (pnt 0 0 false),.int .i64 1603]),.c (.agg (pnt 0 0 false)),.c (.int .i64 1603),.a,.u,.c (.int .i64 1603)] [3] [⟨7,8,27,pnt 0 0 false,fun _=>pnt 0 0 false⟩] ?hs11 ?hv11 ?hf11
 case hs11=>
  refine .cons (.k _ fun yy vv hg hh=>RtW.of_c (Rt.c (pickE (T5_10.gr (gU.trans hg)) (.pointer (some ⟨v3.heap.size,0,none⟩)) hy))) .nil
 case hv11=>
  refine .cons (.mk (fun _ _ _=>rfl) (fun _ v b H F=>by dsimp only at H ⊢; simp [go_sem,exI,H,F]) zPnt ⟨fkc,fkc,fkc,fkc,fkc,fkc,fkc,fka,fku,fkc,trivial⟩) .nil
 intro yw9 v4 hg h9 hV9
 simp only [FW,putFrom,Act.put,lqA,lqB,lqC,wvals,kW,lqD,lqE,Kw.c,pv,Kw.a,Kw.u]
 obtain ⟨⟨N9_7,V9_7⟩, -⟩:(vr.heap.size≤(yw9 7 0).2∧Vr v4 (yw9 7 0).2 (pnt 0 0 false))∧True:=hV9
 clear h9
 replace gU:=gU.trans hg
 have g9:=hg
 clear hg
 go_upto_region 10 with fail
 refine wp_v false [.c (pv ((yw5 10 0).2) 0),.c (.int .i64 y),.c (.tuple #[.agg (pnt 0 0 false),.int .i64 1603]),.c (.tuple #[.agg (pnt 0 0 false),.int .i64 1603]),.c (.agg (pnt 0 0 false)),.c (.int .i64 1603),.a,.u,.c (.int .i64 1603)] [2] [⟨6,7,27,pnt 0 0 false,fun _=>pnt 0 0 false⟩] ?hs12 ?hv12 ?hf12
 case hs12=>
  refine .cons (.k _ fun yy vv hg hh=>RtW.of_c (Rt.c (pickE (T5_10.gr (gU.trans hg)) (Value.pointer none) hy))) .nil
 case hv12=>
  refine .cons (.mk (fun _ _ _=>rfl) (fun _ v b H F=>by dsimp only at H ⊢; simp [go_sem,exI,H,F]) zPnt ⟨fkc,fkc,fkc,fkc,fkc,fkc,fka,fku,fkc,trivial⟩) .nil
 intro yw10 v5 hg h10 hV10
 simp only [FW,putFrom,Act.put,lqA,lqB,lqC,wvals,kW,lqD,lqE,Kw.c,pv,Kw.a,Kw.u]
 obtain ⟨⟨N10_6,V10_6⟩, -⟩:(v4.heap.size≤(yw10 6 0).2∧Vr v5 (yw10 6 0).2 (pnt 0 0 false))∧True:=hV10
 clear h10
 replace g9:=g9.trans hg
 replace gU:=gU.trans hg
 have g10:=hg
 clear hg
 go_upto_region 11 with fail
 refine wp_wS [.c (.int .i64 y),.c (.bool false),.c (.bool false),.c (.int .i64 y),.c (.int .i64 x),.c (.bool true),.c (.bool true)] [1,5] ?hs13 ?hf13
 case hs13=>
  exact .cons (.s (.binOp .lss 3 (.const (.int .i64 y)) (.const (.int .i64 0)) 3) rfl fun vv hg=>by simp [go_sem,exI,y1])<|.cons (.s (.binOp .geq 3 (.const (.int .i64 y)) (.const (.int .i64 x)) 3) rfl fun vv hg=>by simp [go_sem,exI,y2]) .nil
 intro yw11 v6 hg h11
 simp only [FW,putFrom,Act.put,lqA,lqB,lqC,wvals,kW,lqD,lqE,Kw.c]
 clear h11
 replace g10:=g10.trans hg
 replace g9:=g9.trans hg
 replace gU:=gU.trans hg
 have g11:=hg
 clear hg
 go_upto_region 12 with fail
 refine wp_wS [.c (.int .i64 1603),.c (.int .i64 1603),.c (.bool true),.c (.bool true),.c (.int .i64 1603),.c (.int .i64 1603),.c (.bool true),.c (.bool true),.c (.bool true),.c (pv (v3.heap.size) 0),.c (.int .i64 0),.c (.bool true),.c (.bool true),.c (.bool true),.c (.agg (pnt 0 0 false)),.c (.agg (pnt 0 0 false)),.c (.bool true),.c (.bool true),.c (.bool true)] [1,5,10,14,15,16] ?hs14 ?hf14
 case hs14=>
  exact .cons (.k _ fun yy vv hg hh=>RtW.of_c (Rt.same (num_any _ _)))<|.cons (.k _ fun yy vv hg hh=>RtW.of_c (Rt.same (num_any _ _)))<|.cons (.k _ fun yy vv hg hh=>RtW.of_c (Rt.same (lenT (TR0.gr (g9.trans hg)) rfl)))<|.cons (.g 27 0 (V9_7.gr g10) rfl)<|.cons (.g 27 0 (V10_6.gr g11) rfl)<|.cons (.s (.binOp .eql 27 (.const (.agg (pnt 0 0 false))) (.const (.agg (pnt 0 0 false))) 27) rfl fun vv hg=>by simp [go_sem,exI,eqPn,eqN_self]) .nil
 intro yw12 v7 hg h12
 simp only [FW,putFrom,Act.put,lqA,lqB,lqC,wvals,kW,lqD,lqE,Kw.c,pv]
 clear h12
 replace g10:=g10.trans hg
 replace g11:=g11.trans hg
 replace g9:=g9.trans hg
 replace gU:=gU.trans hg
 clear hg
 replace G:=G.trans gU
 replace c9:=c9.gr gU
 replace HQ:=fun k=>(HQ k).gr gU
 replace T5_10:=T5_10.gr gU
 replace TR0:=TR0.gr g9
 replace V9_7:=V9_7.gr g10
 replace V10_6:=V10_6.gr g11
 clear g10 g11 g9 gU
 go_wp2_with fail
 go_ret
 exact ⟨rfl,G⟩
theorem ltnil_2 (id z:Int) {i:Nat} {y:Int} (hy:(i:Int)=y) (hi:∀ a:Nat,a<16→bits .and .i64 z 15=(a:Int)→i<a+1) (w:World):Cg 7 #[.int .i64 id,.int .i64 z,.int .i64 y] w (.bool true):=by
 obtain ⟨u,hu,hu2,hk⟩:=idx_conv id
 have hbd:=idx_bd id
 obtain ⟨k,hkk⟩:∃ k,idx id=k:=⟨_,rfl⟩
 rw [hkk] at hk hbd
 obtain ⟨h1,h2⟩:=hbd
 have u0:(0:Int)≤(u:Int):=by omega
 have hk2:(1:Int)+(u:Int)%15=(k:Int):=by omega
 have hk3:IntKind.i64.wrap ((u:Int)%15)=(u:Int)%15:=by rw [IntKind.wrap_i64]; omega
 have hk4:IntKind.u64.wrap ((u:Int)%15)=(u:Int)%15:=by rw [IntKind.wrap_u64]; omega
 have hk5:(u:Int).tmod 15=(u:Int)%15:=by rw [Int.tmod_eq_emod_of_nonneg (by omega)]
 have k0:(1:Int)≤(k:Int):=by omega
 have k1:(k:Int)≤15:=by omega
 have hu3:id%18446744073709551616=(u:Int):=by rw [← hu,IntKind.wrap_u64]
 clear hkk hk
 have HGR:Hid (∀ w,Calls Tryz.prog 8 #[.int .i64 (k:Int)] w (GetQ k w)):=fun w=>getq_yes k h1 h2 w
 have HAW:Hid (∀ w,Cg 12 #[] w (.bool true)):=fun w=>awake16_any w
 go_enter Tryz.func7,Tryz.ntmps7
 go_upto_region 4 with (first
  | (go_at_call 12; refine (HAW.out _).mono ?_; rintro e WA ⟨rfl,GA⟩)
  | (go_at_call 8; refine (HGR.out _).mono ?_; rintro e WB ⟨qc,rfl,HQ,GB⟩))
 obtain ⟨e9,he9⟩:∃ b,WB.heap.size=b:=⟨_,rfl⟩
 simp only [he9]
 refine gen_w (fun v=>Gr w v∧Vr v e9 (crA (k:Int) (nN k) qc)∧∀ j,Sl v (qc j).1 (nN k j)) ?_ ?_
 ·subst he9
  exact ⟨(GA.trans GB).alloc _,Vr.new _ _ _,fun j=>(HQ j).gr ((Gr.refl _).alloc _)⟩
 clear he9 GA GB HQ HAW HGR hu hu2 hk2 hk3 hk4 hk5 hu3 u0 k0 k1
 rintro v0 ⟨G,c9,HQ⟩
 obtain ⟨P,hP⟩:∃ Z,gQ k=Z:=⟨_,rfl⟩
 have oP:OnQ k P:=hP ▸ gQ_on h1 h2
 obtain ⟨a,la,e1⟩:=and_15 z
 obtain ⟨x,e2⟩:∃ x,IntKind.i64.wrap (1+(a:Int))=x:=⟨_,rfl⟩
 have hx:((a+1:Nat):Int)=x:=by rw [← e2,IntKind.wrap_i64]; omega
 obtain ⟨n,hna⟩:∃ n,a+1=n:=⟨_,rfl⟩
 rw [hna] at hx
 have hn:1≤n∧n≤16:=by omega
 replace hi:=hi a la e1
 rw [hna] at hi
 have li:i<16:=by omega
 have y1:¬ y<0:=by omega
 have y2:¬ x≤y:=by omega
 obtain ⟨Z,hZ⟩:∃ Z,mlQ k i P=Z:=⟨_,rfl⟩
 clear hna la
 refine wp_wS [.c (.int .i64 z),.c (.int .i64 (a:Int)),.c (.int .i64 x),.c (.int .i64 x)] [1,2] ?hs15 ?hf15
 case hs15=>
  exact .cons (.s (.binOp .and 3 (.const (.int .i64 z)) (.const (.int .i64 15)) 3) rfl fun vv hg=>by simp [go_sem,exI,e1])<|.cons (.s (.binOp .add 3 (.const (.int .i64 1)) (.const (.int .i64 (a:Int))) 3) rfl fun vv hg=>by simp [go_sem,exI,e2]) .nil
 intro yw4 v1 hg h4
 simp only [FW,putFrom,Act.put,lqA,lqB,lqC,wvals,kW,lqD,lqE,Kw.c]
 clear h4
 have g4:=hg
 clear hg
 go_upto_region 5 with fail
 refine wp_w [.c (pv e9 0),.c (.int .i64 (k:Int)),.c (.agg (crA (k:Int) (nN k) qc)),.pt (P.1) (P.2.1) P.2.2,.c (.agg (pnt P.1 P.2.1 P.2.2)),.c (.int .i64 x),.tt n (mF k P),.tt n (mF k P),.tp n (mF k P),.c (.int .i64 0),.tp n (mF k P),.c (.int .i64 0)] [1,2,3,4,6,7,8,9,10] ?hs16 ?hf16
 case hs16=>
  exact .cons (.o 3 0 (c9.gr g4) rfl rfl)<|.cons (.g 32 0 (c9.gr g4) rfl)<|.cons (.k _ fun yy vv hg hh=>RtW.of_pt (rgQ hP qc _ (fun j=>(HQ j).gr (g4.trans hg))))<|.cons (.k (fun yy => #[.agg (ptA (yy 3 0).1 (P.1) (yy 3 0).2 (yy 3 1).1 (P.2.1) (yy 3 1).2 P.2.2)]) fun yy vv hg hh=>RtW.of_c (Rt.c (rout_any _ _ _ _ _ _ _ _ (hh 3 rfl).1 (hh 3 rfl).2)))<|.cons (.k _ fun yy vv hg hh =>  ((new_tt h1 h2 oP hn hx _)))<|.cons (.m 6)<|.cons (.m 7)<|.cons (.m 7)<|.cons (.m 8) .nil
 intro yw5 v2 hg h5
 simp only [FW,putFrom,Act.put,lqA,lqB,lqC,wvals,kW,lqD,lqE,Kw.c,pv,Kw.pt,Kw.tp,Kw.tt]
 have T5_10:Tb v2 (yw5 10 0).2 (yw5 10 1).2 (yw5 10 2).2 n (mF k P):=h5 10
 clear h5
 replace g4:=g4.trans hg
 clear hg
 go_upto_region 6 with fail
 refine wp_wS [.c (.bool true),.c (.bool false),.c (.bool false),.c (.int .i64 0),.c (.int .i64 0),.c (.bool false),.c (.bool false)] [4] ?hs17 ?hf17
 case hs17=>
  refine .cons (.k _ fun yy vv hg hh=>RtW.of_c (Rt.same (num_any _ _))) .nil
 intro yw6 v3 hg h6
 simp only [FW,putFrom,Act.put,lqA,lqB,lqC,wvals,kW,lqD,lqE,Kw.c]
 clear h6
 replace g4:=g4.trans hg
 have g6:=hg
 clear hg
 replace G:=G.trans g4
 replace c9:=c9.gr g4
 replace HQ:=fun k=>(HQ k).gr g4
 replace T5_10:=T5_10.gr g6
 clear g4 g6
 go_upto_region 9 with (go_at_call 15; refine (new_any _).mono ?_; rintro e w' ⟨rfl,rfl⟩)
 refine gen_w (fun v=>Gr v3 v∧Tr v (v3.heap.size) (.slice none 0 0) []) ⟨grA,Tr.new _⟩ ?_
 rintro vr ⟨gU,TR0⟩
 go_upto_region 10 with (go_at_call 16; refine (pickR h1 h2 oP T5_10 gU (Nat.le_refl _) TR0 (Nat.zero_le _) hn.2 hi hy hZ).mono ?_; rintro e w9 ⟨rfl,z9,hR9,gU9⟩)
 refine gen_w (fun v=>Gr v3 v∧Tr v (v3.heap.size) z9 ([]++ixs n)∧Vr v (w9.heap.size) (pnt Z.1 Z.2.1 Z.2.2)) ⟨gU9.alloc _,(hR9.lk _ rfl).gr ((Gr.refl _).alloc _),Vr.new _ _ _⟩ ?_
 clear gU  TR0
 rintro v9r ⟨gU,TR0,V9⟩
 clear hR9 gU9
 go_upto_region 10 with fail
 refine wp_v false [.c (pv ((yw5 10 0).2) 0),.c (.int .i64 y),.c (.tuple #[.agg (pnt Z.1 Z.2.1 Z.2.2),.int .i64 0]),.c (.tuple #[.agg (pnt Z.1 Z.2.1 Z.2.2),.int .i64 0]),.c (.agg (pnt Z.1 Z.2.1 Z.2.2)),.c (.int .i64 0),.a,.u,.c (.int .i64 0)] [2] [⟨6,7,27,pnt 0 0 false,fun _=>pnt Z.1 Z.2.1 Z.2.2⟩] ?hs18 ?hv18 ?hf18
 case hs18=>
  refine .cons (.k _ fun yy vv hg hh=>RtW.of_c (Rt.c (pickM h1 h2 oP (T5_10.gr (gU.trans hg)) hn.2 hi hy hZ))) .nil
 case hv18=>
  refine .cons (.mk (fun _ _ _=>rfl) (fun _ v b H F=>by dsimp only at H ⊢; simp [go_sem,exI,H,F]) zPnt ⟨fkc,fkc,fkc,fkc,fkc,fkc,fka,fku,fkc,trivial⟩) .nil
 intro yw10 v4 hg h10 hV10
 simp only [FW,putFrom,Act.put,lqA,lqB,lqC,wvals,kW,lqD,lqE,Kw.c,pv,Kw.a,Kw.u]
 obtain ⟨⟨N10_6,V10_6⟩, -⟩:(v9r.heap.size≤(yw10 6 0).2∧Vr v4 (yw10 6 0).2 (pnt Z.1 Z.2.1 Z.2.2))∧True:=hV10
 clear h10
 replace gU:=gU.trans hg
 have g10:=hg
 clear hg
 go_upto_region 11 with fail
 refine wp_wS [.c (.int .i64 y),.c (.bool false),.c (.bool false),.c (.int .i64 y),.c (.int .i64 x),.c (.bool false),.c (.bool false)] [1,5] ?hs19 ?hf19
 case hs19=>
  exact .cons (.s (.binOp .lss 3 (.const (.int .i64 y)) (.const (.int .i64 0)) 3) rfl fun vv hg=>by simp [go_sem,exI,y1])<|.cons (.s (.binOp .geq 3 (.const (.int .i64 y)) (.const (.int .i64 x)) 3) rfl fun vv hg=>by simp [go_sem,exI,y2]) .nil
 intro yw11 v5 hg h11
 simp only [FW,putFrom,Act.put,lqA,lqB,lqC,wvals,kW,lqD,lqE,Kw.c]
 clear h11
 replace g10:=g10.trans hg
 replace gU:=gU.trans hg
 have g11:=hg
 clear hg
 go_upto_region 13 with fail
 refine wp_w [.c (.int .i64 0),.c (.int .i64 0),.c (.bool true),.c (.bool true),.c (.int .i64 0),.c (.int .i64 0),.c (.bool true),.c (.bool true),.c (.bool true),.c (.agg (pnt Z.1 Z.2.1 Z.2.2)),.c (.agg (pnt Z.1 Z.2.1 Z.2.2)),.c (.bool true),.c (.bool true),.c (.bool true),.c (.agg (pnt Z.1 Z.2.1 Z.2.2)),.c (.agg (crA (k:Int) (nN k) qc)),.c (.int .i64 y),.n (i),.c (.agg (crA (k:Int) (nN k) qc)),.pt (P.1) (P.2.1) P.2.2,.pt (Z.1) (Z.2.1) Z.2.2,.c (.agg (pnt Z.1 Z.2.1 Z.2.2)),.c (.bool true),.c (.bool true),.c (.bool true),.c (pv (v3.heap.size) 0),.c (.int .i64 x),.c (.int .i64 x),.c (.bool true),.c (.bool true),.c (.bool true)] [1,5,9,10,11,14,15,17,18,19,20,21,22,26,28] ?hs20 ?hf20
 case hs20=>
  exact .cons (.k _ fun yy vv hg hh=>RtW.of_c (Rt.same (num_any _ _)))<|.cons (.k _ fun yy vv hg hh=>RtW.of_c (Rt.same (num_any _ _)))<|.cons (.g 27 0 (V9.gr g10) rfl)<|.cons (.g 27 0 (V10_6.gr g11) rfl)<|.cons (.s (.binOp .eql 27 (.const (.agg (pnt Z.1 Z.2.1 Z.2.2))) (.const (.agg (pnt Z.1 Z.2.1 Z.2.2))) 27) rfl fun vv hg=>by simp [go_sem,exI,eqPn,eqN_self])<|.cons (.g 27 0 (V9.gr g10) rfl)<|.cons (.g 32 0 (c9.gr gU) rfl)<|.cons (.k _ fun yy vv hg hh=>RtW.of_n (rsmI li hy _))<|.cons (.g 32 0 (c9.gr gU) rfl)<|.cons (.k _ fun yy vv hg hh=>RtW.of_pt (rgQ hP qc _ (fun j=>(HQ j).gr (gU.trans hg))))<|.cons (.k (fun yy => #[.agg (crA (k:Int) (nN k) qc),.slice (yy 17 0).1 (dl (i)) (yy 17 0).2,.agg (ptA (yy 19 0).1 (P.1) (yy 19 0).2 (yy 19 1).1 (P.2.1) (yy 19 1).2 P.2.2)]) fun yy vv hg hh=>RtW.of_pt (hZ ▸ rtimesQ k h1 h2 qc oP (dl_16 li) (fun j=>(HQ j).gr (gU.trans hg)) (hh 17 rfl) (hh 19 rfl).1 (hh 19 rfl).2))<|.cons (.k (fun yy => #[.agg (ptA (yy 20 0).1 (Z.1) (yy 20 0).2 (yy 20 1).1 (Z.2.1) (yy 20 1).2 Z.2.2)]) fun yy vv hg hh=>RtW.of_c (Rt.c (rout_any _ _ _ _ _ _ _ _ (hh 20 rfl).1 (hh 20 rfl).2)))<|.cons (.s (.binOp .eql 27 (.const (.agg (pnt Z.1 Z.2.1 Z.2.2))) (.const (.agg (pnt Z.1 Z.2.1 Z.2.2))) 27) rfl fun vv hg=>by simp [go_sem,exI,eqPn,eqN_self])<|.cons (.k _ fun yy vv hg hh=>RtW.of_c (Rt.same (lenT (TR0.gr (g10.trans hg)) (len_ixs n hx))))<|.cons (.s (.binOp .eql 3 (.const (.int .i64 x)) (.const (.int .i64 x)) 3) rfl fun vv hg=>by simp [go_sem,exI]) .nil
 intro yw13 v6 hg h13
 simp only [FW,putFrom,Act.put,lqA,lqB,lqC,wvals,kW,lqD,lqE,Kw.c,pv,Kw.n,Kw.pt]
 clear h13
 replace g10:=g10.trans hg
 replace g11:=g11.trans hg
 replace gU:=gU.trans hg
 clear hg
 replace G:=G.trans gU
 replace c9:=c9.gr gU
 replace HQ:=fun k=>(HQ k).gr gU
 replace T5_10:=T5_10.gr gU
 replace V9:=V9.gr g10
 replace TR0:=TR0.gr g10
 replace V10_6:=V10_6.gr g11
 clear g10 g11 gU
 go_wp2_with fail
 go_ret
 exact ⟨rfl,G⟩
theorem ltnil_any (id z y:Int) (w:World):Cg 7 #[.int .i64 id,.int .i64 z,.int .i64 y] w (.bool true):=by
 by_cases y1:y<0
 ·exact ltnil_0 id z y y1 w
 obtain ⟨a,la,e1⟩:=and_15 z
 have one:∀ b:Nat,b<16→bits .and .i64 z 15=(b:Int)→b=a:=fun b _ e=>by omega
 by_cases y2:y<(a:Int)+1
 ·exact ltnil_2 id z (i:=y.toNat) (by omega) (fun b lb e=>by have:=one b lb e; omega) w
 ·exact ltnil_1 id z y y1 (fun b lb e=>by have:=one b lb e; omega) w
end
end
end Go.Proofs.YtikilbpfhijocaaGreat