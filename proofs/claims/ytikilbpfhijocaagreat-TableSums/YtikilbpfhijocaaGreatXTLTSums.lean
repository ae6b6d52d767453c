import Derived.Test.YtikilbpfhijocaaGreatXTUF
import Derived.Test.YtikilbpfhijocaaGreatXTCC
namespace Go.Proofs.YtikilbpfhijocaaGreat
open Go.RowKit
set_option maxRecDepth 100000
set_option maxHeartbeats 8000000
section
attribute [local go_sem ↓] loadNat_is loadArr_is loadWide_is loadArrW_is storeNat_is storeWide_is
attribute [local go_sem] loadNat loadArr loadWide loadArrW storeNat storeWide idxArr fold9 fold18 nw_size nw_elem pre_self pre_1 pre_2 pre_3 pre_4 pre_5 pre_6 pre_7 pre_8 pre_9 pre_10 pre_11 pre_12 pre_13 pre_14 pre_15 pre_16 pre_17 pre_18 pre_19 pre_20 pre_21 pre_22 pre_23 pre_24 pre_25 pre_26 pre_27 pre_28 pre_29 pre_30 pre_31 pre_32 pre_33 pre_34 pre_35 pre_36 pre_37 pre_38 pre_39 pre_40 gro_size gro_drew gro_drewN drew_gro drewN_gro gro_gro blk_gro frz_gro blk_drew frz_drew blk_drewN frz_drewN blk_alloc_at frz_alloc_at blk_alloc frz_alloc cell_gro frozen_gro cell_alloc_pre frozen_alloc_pre setCell_drewN alloc_drewN setBlk_drew setBlk_drewN setBlk_alloc_at setBlk_alloc setBlk_gro setCell_gro setCell_alloc_pre size_setBlk size_setCell
section
attribute [local go_sem] ppre_1 ppre_2 ppre_3 ppre_4 ppre_5 ppre_6
attribute [local go_sem ↓] bsl_is loadC_is storeC_is loadPt_is storePt_is zvPt_is buildPt_is loadPn_is storePn_is zvPn_is loadCu_is storeCu_is zvCu_is buildCu_is buildPn_is Go.wp_at_zero Go.wp_at_succ
attribute [local go_sem] loadC storeC0 storeCr crA_size loadPt storePt zvPt ptA_size loadPn storePn zvPn pnt_size loadCu storeCu zvCu cu_size buildCu0 buildPnI buildPn2 loadCP loadCA loadCB loadCN loadCG loadCX loadCY cu_P cu_A cu_B cu_N cu_G cu_X cu_Y frz_setBlk blk_setBlk setBlk_setBlk blk_other
theorem and_7 (x:Int):∃ a:Nat,a<8∧bits .and .i64 x 7=(a:Int):=by
 refine ⟨(BitVec.ofInt 64 x).toNat%8,Nat.mod_lt _ (by decide),?_⟩
 show IntKind.i64.wrap ((BitVec.ofInt 64 x &&& BitVec.ofInt 64 7).toNat:Int)=_
 rw [BitVec.toNat_and,show (BitVec.ofInt 64 7).toNat=2 ^ 3-1 from rfl,Nat.and_two_pow_sub_one_eq_mod,IntKind.wrap_i64]
 omega
theorem ltsums_any (id:Int) (n:Nat) (hn:n<18446744073709551616) (x y:Int) (w:World):Cg 5 #[.int .i64 id,.int .u64 (n:Int),.int .i64 x,.int .i64 y] w (.bool true):=by
 obtain ⟨u,hu,hu2,hk⟩:=idx_conv id
 have hbd:=idx_bd id
 obtain ⟨k,hkk⟩:∃ k,idx id=k:=⟨_,rfl⟩
 rw [hkk] at hk hbd
 obtain ⟨h1,h2⟩:=hbd
 have u0:(0:Int)≤(u:Int):=by omega
 have hk2:(1:Int)+(u:Int)%15=(k:Int):=by omega
 have hk3:IntKind.i64.wrap ((u:Int)%15)=(u:Int)%15:=by rw [IntKind.wrap_i64]; omega
 have hk4:IntKind.u64.wrap ((u:Int)%15)=(u:Int)%15:=by rw [IntKind.wrap_u64]; omega
 have hk5:(u:Int).tmod 15=(u:Int)%15:=by rw [Int.tmod_eq_emod_of_nonneg (by omega)]
 have k0:(1:Int)≤(k:Int):=by omega
 have k1:(k:Int)≤15:=by omega
 have hu3:id%18446744073709551616=(u:Int):=by rw [← hu,IntKind.wrap_u64]
 clear hkk hk
 have HGR:Hid (∀ w,Calls Tryz.prog 8 #[.int .i64 (k:Int)] w (GetQ k w)):=fun w=>getq_yes k h1 h2 w
 have HAW:Hid (∀ w,Cg 12 #[] w (.bool true)):=fun w=>awake16_any w
 go_enter Tryz.func5,Tryz.ntmps5
 go_upto_region 4 with (first
  | (go_at_call 12; refine (HAW.out _).mono ?_; rintro e WA ⟨rfl,GA⟩)
  | (go_at_call 8; refine (HGR.out _).mono ?_; rintro e WB ⟨qc,rfl,HQ,GB⟩))
 obtain ⟨e9,he9⟩:∃ b,WB.heap.size=b:=⟨_,rfl⟩
 simp only [he9]
 refine gen_w (fun v=>Gr w v∧Vr v e9 (crA (k:Int) (nN k) qc)∧∀ j,Sl v (qc j).1 (nN k j)) ?_ ?_
 ·subst he9
  exact ⟨(GA.trans GB).alloc _,Vr.new _ _ _,fun j=>(HQ j).gr ((Gr.refl _).alloc _)⟩
 clear he9 GA GB HQ HAW HGR hu hu2 hk2 hk3 hk4 hk5 hu3 u0 k0 k1
 rintro v0 ⟨G,c9,HQ⟩
 obtain ⟨a,la,e1⟩:=and_7 x
 obtain ⟨b,lb,e2⟩:=and_7 y
 have e4:IntKind.i64.wrap ((a:Int)+(b:Int))=(a:Int)+(b:Int):=by rw [IntKind.wrap_i64]; omega
 have e3:((a+b:Nat):Int)=(a:Int)+(b:Int):=by omega
 obtain ⟨P,hP⟩:∃ Z,mlQ k n (gQ k)=Z:=⟨_,rfl⟩
 have oP:OnQ k P:=hP ▸ mlQ_on h1 h2 _ (gQ_on h1 h2)
 obtain ⟨A,hA⟩:∃ Z,mlQ k a P=Z:=⟨_,rfl⟩
 have oA:OnQ k A:=hA ▸ mlQ_on h1 h2 _ oP
 obtain ⟨B,hB⟩:∃ Z,mlQ k b P=Z:=⟨_,rfl⟩
 have oB:OnQ k B:=hB ▸ mlQ_on h1 h2 _ oP
 obtain ⟨C,hC⟩:∃ Z,mlQ k (a+b) P=Z:=⟨_,rfl⟩
 have hAB:plQ k A B=C:=by rw [← hA,← hB,← hC,mlQ_add h1 h2 a b oP]
 have lA:a<16:=by omega
 have lB:b<16:=by omega
 have lC:a+b<16:=by omega
 have hM:n<M:=lt_M _ hn
 have hd:dl n≤400:=by have:=dl_M n hM; omega
 refine wp_v true [.c (.agg (crA (k:Int) (nN k) qc)),.c (.int .u64 (n:Int)),.c (.agg (nw 9 n)),.n (n),.c (.agg (crA (k:Int) (nN k) qc)),.pt (xN k) (yN k) false,.pt (P.1) (P.2.1) P.2.2,.c (.agg (pnt P.1 P.2.1 P.2.2)),.a,.u] [0,2,3,4,5,6,7] [⟨8,9,27,pnt 0 0 false,fun _=>pnt P.1 P.2.1 P.2.2⟩] ?hs1 ?hv1 ?hf1
 case hs1=>
  exact .cons (.g 32 0 c9 rfl)<|.cons (.k _ fun yy vv hg hh=>RtW.of_c (Rt.c (one_any _ hn _)))<|.cons (.k _ fun yy vv hg hh=>RtW.of_n (fm_any hM))<|.cons (.g 32 0 c9 rfl)<|.cons (.k _ fun yy vv hg hh=>RtW.of_pt (rg_any qc _ (fun j=>(HQ j).gr hg)))<|.cons (.k (fun yy => #[.agg (crA (k:Int) (nN k) qc),.slice (yy 3 0).1 (dl (n)) (yy 3 0).2,.agg (ptA (yy 5 0).1 (xN k) (yy 5 0).2 (yy 5 1).1 (yN k) (yy 5 1).2 false)]) fun yy vv hg hh=>RtW.of_pt (hP ▸ rtimesQ k h1 h2 qc (gQ_on h1 h2) hd (fun j=>(HQ j).gr hg) (hh 3 rfl) (hh 5 rfl).1 (hh 5 rfl).2))<|.cons (.k (fun yy => #[.agg (ptA (yy 6 0).1 (P.1) (yy 6 0).2 (yy 6 1).1 (P.2.1) (yy 6 1).2 P.2.2)]) fun yy vv hg hh=>RtW.of_c (Rt.c (rout_any _ _ _ _ _ _ _ _ (hh 6 rfl).1 (hh 6 rfl).2))) .nil
 case hv1=>
  refine .cons (.mk (fun _ _ _=>rfl) (fun _ v b H F=>by dsimp only at H ⊢; simp [go_sem,exI,H,F]) zPnt ⟨fkc,fkc,fkc,fkn bPnt,fkc,fkp bPnt,fkp bPnt,fkc,fka,fku,trivial⟩) .nil
 intro yw4 v1 hg h4 hV4
 simp only [FW,putFrom,Act.put,lqA,lqB,lqC,wvals,kW,lqD,lqE,Kw.c,Kw.a,Kw.n,Kw.pt,Kw.u]
 obtain ⟨⟨N4_8,V4_8⟩, -⟩:(v0.heap.size≤(yw4 8 0).2∧Vr v1 (yw4 8 0).2 (pnt P.1 P.2.1 P.2.2))∧True:=hV4
 clear h4
 have g4:=hg
 clear hg
 go_upto_region 5 with fail
 refine wp_wS [.c (pv e9 0),.c (.int .i64 (k:Int)),.c (.agg (pnt P.1 P.2.1 P.2.2)),.tt 16 (mF k P),.tt 16 (mF k P),.tp 16 (mF k P),.c (.int .i64 0),.tp 16 (mF k P),.c (.int .i64 0)] [1,2,3,4,5,6,7] ?hs2 ?hf2
 case hs2=>
  exact .cons (.o 3 0 (c9.gr g4) rfl rfl)<|.cons (.g 27 0 V4_8 rfl)<|.cons (.k _ fun yy vv hg hh =>  ((new_tt h1 h2 oP (n:=16) (by decide) rfl _)))<|.cons (.m 3)<|.cons (.m 4)<|.cons (.m 4)<|.cons (.m 5) .nil
 intro yw5 v2 hg h5
 simp only [FW,putFrom,Act.put,lqA,lqB,lqC,wvals,kW,lqD,lqE,Kw.c,pv,Kw.tp,Kw.tt]
 have T5_7:Tb v2 (yw5 7 0).2 (yw5 7 1).2 (yw5 7 2).2 16 (mF k P):=h5 7
 clear h5
 replace g4:=g4.trans hg
 have g5:=hg
 clear hg
 go_upto_region 6 with fail
 refine wp_wS [.c (.bool true),.c (.bool false),.c (.bool false),.c (.int .i64 0),.c (.int .i64 0),.c (.bool false),.c (.bool false)] [4] ?hs3 ?hf3
 case hs3=>
  refine .cons (.k _ fun yy vv hg hh=>RtW.of_c (Rt.same (num_any _ _))) .nil
 intro yw6 v3 hg h6
 simp only [FW,putFrom,Act.put,lqA,lqB,lqC,wvals,kW,lqD,lqE,Kw.c]
 clear h6
 replace g4:=g4.trans hg
 replace g5:=g5.trans hg
 have g6:=hg
 clear hg
 go_upto_region 8 with fail
 refine wp_wS [.c (.int .i64 x),.c (.int .i64 (a:Int)),.c (.int .i64 y),.c (.int .i64 (b:Int)),.c (.int .i64 (a:Int)),.c (.int .i64 (b:Int))] [1,3] ?hs4 ?hf4
 case hs4=>
  exact .cons (.s (.binOp .and 3 (.const (.int .i64 x)) (.const (.int .i64 7)) 3) rfl fun vv hg=>by simp [go_sem,exI,e1])<|.cons (.s (.binOp .and 3 (.const (.int .i64 y)) (.const (.int .i64 7)) 3) rfl fun vv hg=>by simp [go_sem,exI,e2]) .nil
 intro yw8 v4 hg h8
 simp only [FW,putFrom,Act.put,lqA,lqB,lqC,wvals,kW,lqD,lqE,Kw.c]
 clear h8
 replace g4:=g4.trans hg
 replace g5:=g5.trans hg
 replace g6:=g6.trans hg
 clear hg
 go_upto_region 9 with fail
 refine wp_v false [.c (pv ((yw5 7 0).2) 0),.c (.int .i64 (a:Int)),.c (.tuple #[.agg (pnt A.1 A.2.1 A.2.2),.int .i64 0]),.c (.tuple #[.agg (pnt A.1 A.2.1 A.2.2),.int .i64 0]),.c (.agg (pnt A.1 A.2.1 A.2.2)),.c (.int .i64 0),.a,.u,.c (.int .i64 0)] [2] [⟨6,7,27,pnt 0 0 false,fun _=>pnt A.1 A.2.1 A.2.2⟩] ?hs5 ?hv5 ?hf5
 case hs5=>
  refine .cons (.k _ fun yy vv hg hh=>RtW.of_c (Rt.c (pickM h1 h2 oP (T5_7.gr (g6.trans hg)) (by decide) lA (i:=a) rfl hA))) .nil
 case hv5=>
  refine .cons (.mk (fun _ _ _=>rfl) (fun _ v b H F=>by dsimp only at H ⊢; simp [go_sem,exI,H,F]) zPnt ⟨fkc,fkc,fkc,fkc,fkc,fkc,fka,fku,fkc,trivial⟩) .nil
 intro yw9 v5 hg h9 hV9
 simp only [FW,putFrom,Act.put,lqA,lqB,lqC,wvals,kW,lqD,lqE,Kw.c,pv,Kw.a,Kw.u]
 obtain ⟨⟨N9_6,V9_6⟩, -⟩:(v4.heap.size≤(yw9 6 0).2∧Vr v5 (yw9 6 0).2 (pnt A.1 A.2.1 A.2.2))∧True:=hV9
 clear h9
 replace g4:=g4.trans hg
 replace g5:=g5.trans hg
 replace g6:=g6.trans hg
 clear hg
 go_upto_region 10 with fail
 refine wp_v false [.c (pv ((yw5 7 0).2) 0),.c (.int .i64 (b:Int)),.c (.tuple #[.agg (pnt B.1 B.2.1 B.2.2),.int .i64 0]),.c (.tuple #[.agg (pnt B.1 B.2.1 B.2.2),.int .i64 0]),.c (.agg (pnt B.1 B.2.1 B.2.2)),.c (.int .i64 0),.a,.u,.c (.int .i64 0)] [2] [⟨6,7,27,pnt 0 0 false,fun _=>pnt B.1 B.2.1 B.2.2⟩] ?hs6 ?hv6 ?hf6
 case hs6=>
  refine .cons (.k _ fun yy vv hg hh=>RtW.of_c (Rt.c (pickM h1 h2 oP (T5_7.gr (g6.trans hg)) (by decide) lB (i:=b) rfl hB))) .nil
 case hv6=>
  refine .cons (.mk (fun _ _ _=>rfl) (fun _ v b H F=>by dsimp only at H ⊢; simp [go_sem,exI,H,F]) zPnt ⟨fkc,fkc,fkc,fkc,fkc,fkc,fka,fku,fkc,trivial⟩) .nil
 intro yw10 v6 hg h10 hV10
 simp only [FW,putFrom,Act.put,lqA,lqB,lqC,wvals,kW,lqD,lqE,Kw.c,pv,Kw.a,Kw.u]
 obtain ⟨⟨N10_6,V10_6⟩, -⟩:(v5.heap.size≤(yw10 6 0).2∧Vr v6 (yw10 6 0).2 (pnt B.1 B.2.1 B.2.2))∧True:=hV10
 clear h10
 replace g4:=g4.trans hg
 replace g5:=g5.trans hg
 replace g6:=g6.trans hg
 have g10:=hg
 clear hg
 go_upto_region 11 with fail
 refine wp_v false [.c (pv ((yw5 7 0).2) 0),.c (.int .i64 (a:Int)),.c (.int .i64 (b:Int)),.c (.int .i64 ((a:Int)+(b:Int))),.c (.tuple #[.agg (pnt C.1 C.2.1 C.2.2),.int .i64 0]),.c (.tuple #[.agg (pnt C.1 C.2.1 C.2.2),.int .i64 0]),.c (.agg (pnt C.1 C.2.1 C.2.2)),.c (.int .i64 0),.a,.u,.c (.int .i64 0)] [3,4] [⟨8,9,27,pnt 0 0 false,fun _=>pnt C.1 C.2.1 C.2.2⟩] ?hs7 ?hv7 ?hf7
 case hs7=>
  exact .cons (.s (.binOp .add 3 (.const (.int .i64 (a:Int))) (.const (.int .i64 (b:Int))) 3) rfl fun vv hg=>by simp [go_sem,exI,e4])<|.cons (.k _ fun yy vv hg hh=>RtW.of_c (Rt.c (pickM h1 h2 oP (T5_7.gr (g6.trans hg)) (by decide) lC (i:=a+b) e3 hC))) .nil
 case hv7=>
  refine .cons (.mk (fun _ _ _=>rfl) (fun _ v b H F=>by dsimp only at H ⊢; simp [go_sem,exI,H,F]) zPnt ⟨fkc,fkc,fkc,fkc,fkc,fkc,fkc,fkc,fka,fku,fkc,trivial⟩) .nil
 intro yw11 v7 hg h11 hV11
 simp only [FW,putFrom,Act.put,lqA,lqB,lqC,wvals,kW,lqD,lqE,Kw.c,pv,Kw.a,Kw.u]
 obtain ⟨⟨N11_8,V11_8⟩, -⟩:(v6.heap.size≤(yw11 8 0).2∧Vr v7 (yw11 8 0).2 (pnt C.1 C.2.1 C.2.2))∧True:=hV11
 clear h11
 replace g10:=g10.trans hg
 replace g4:=g4.trans hg
 replace g5:=g5.trans hg
 replace g6:=g6.trans hg
 have g11:=hg
 clear hg
 go_upto_region 12 with fail
 refine wp_v false [.c (pv e9 0),.c (.int .i64 (k:Int)),.c (.agg (pnt A.1 A.2.1 A.2.2)),.c (.agg (pnt B.1 B.2.1 B.2.2)),.c (.tuple #[.agg (pnt C.1 C.2.1 C.2.2),.int .i64 0]),.c (.tuple #[.agg (pnt C.1 C.2.1 C.2.2),.int .i64 0]),.c (.agg (pnt C.1 C.2.1 C.2.2)),.c (.int .i64 0),.a,.u,.c (.int .i64 0)] [1,2,3,4] [⟨8,9,27,pnt 0 0 false,fun _=>pnt C.1 C.2.1 C.2.2⟩] ?hs8 ?hv8 ?hf8
 case hs8=>
  exact .cons (.o 3 0 (c9.gr g4) rfl rfl)<|.cons (.g 27 0 (V9_6.gr g10) rfl)<|.cons (.g 27 0 (V10_6.gr g11) rfl)<|.cons (.k _ fun yy vv hg hh=>RtW.of_c (Rt.c (addQ h1 h2 oA oB hAB _))) .nil
 case hv8=>
  refine .cons (.mk (fun _ _ _=>rfl) (fun _ v b H F=>by dsimp only at H ⊢; simp [go_sem,exI,H,F]) zPnt ⟨fkc,fkc,fkc,fkc,fkc,fkc,fkc,fkc,fka,fku,fkc,trivial⟩) .nil
 intro yw12 v8 hg h12 hV12
 simp only [FW,putFrom,Act.put,lqA,lqB,lqC,wvals,kW,lqD,lqE,Kw.c,pv,Kw.a,Kw.u]
 obtain ⟨⟨N12_8,V12_8⟩, -⟩:(v7.heap.size≤(yw12 8 0).2∧Vr v8 (yw12 8 0).2 (pnt C.1 C.2.1 C.2.2))∧True:=hV12
 clear h12
 replace g10:=g10.trans hg
 replace g11:=g11.trans hg
 replace g4:=g4.trans hg
 replace g5:=g5.trans hg
 replace g6:=g6.trans hg
 have g12:=hg
 clear hg
 go_upto_region 13 with fail
 refine wp_v false [.c (pv ((yw5 7 0).2) 0),.c (.tuple #[.agg (pnt 0 0 true),.int .i64 0]),.c (.tuple #[.agg (pnt 0 0 true),.int .i64 0]),.c (.agg (pnt 0 0 true)),.c (.int .i64 0),.a,.u,.c (.int .i64 0)] [1] [⟨5,6,27,pnt 0 0 false,fun _=>pnt 0 0 true⟩] ?hs9 ?hv9 ?hf9
 case hs9=>
  refine .cons (.k _ fun yy vv hg hh=>RtW.of_c (Rt.c (pickM h1 h2 oP (T5_7.gr (g6.trans hg)) (by decide) (i:=0) (by decide) rfl (Z:=inf) (mlQ_zero h1 h2 P)))) .nil
 case hv9=>
  refine .cons (.mk (fun _ _ _=>rfl) (fun _ v b H F=>by dsimp only at H ⊢; simp [go_sem,exI,H,F]) zPnt ⟨fkc,fkc,fkc,fkc,fkc,fka,fku,fkc,trivial⟩) .nil
 intro yw13 v9 hg h13 hV13
 simp only [FW,putFrom,Act.put,lqA,lqB,lqC,wvals,kW,lqD,lqE,Kw.c,pv,Kw.a,Kw.u]
 obtain ⟨⟨N13_5,V13_5⟩, -⟩:(v8.heap.size≤(yw13 5 0).2∧Vr v9 (yw13 5 0).2 (pnt 0 0 true))∧True:=hV13
 clear h13
 replace g10:=g10.trans hg
 replace g11:=g11.trans hg
 replace g12:=g12.trans hg
 replace g4:=g4.trans hg
 replace g5:=g5.trans hg
 replace g6:=g6.trans hg
 have g13:=hg
 clear hg
 go_upto_region 14 with fail
 refine wp_wS [.c (.int .i64 0),.c (.int .i64 0),.c (.bool true),.c (.bool true),.c (.int .i64 0),.c (.int .i64 0),.c (.bool true),.c (.bool true),.c (.bool true),.c (.int .i64 0),.c (.int .i64 0),.c (.bool true),.c (.bool true),.c (.bool true),.c (.int .i64 0),.c (.int .i64 0),.c (.bool true),.c (.bool true),.c (.bool true),.c (.agg (pnt C.1 C.2.1 C.2.2)),.c (.agg (pnt C.1 C.2.1 C.2.2)),.c (.bool true),.c (.bool true),.c (.bool true),.c (.agg (pnt 0 0 true)),.c (.agg (pnt 0 0 true)),.c (.bool true),.c (.bool true),.c (.bool true)] [1,5,10,15,19,20,21,24,26] ?hs10 ?hf10
 case hs10=>
  exact .cons (.k _ fun yy vv hg hh=>RtW.of_c (Rt.same (num_any _ _)))<|.cons (.k _ fun yy vv hg hh=>RtW.of_c (Rt.same (num_any _ _)))<|.cons (.k _ fun yy vv hg hh=>RtW.of_c (Rt.same (num_any _ _)))<|.cons (.k _ fun yy vv hg hh=>RtW.of_c (Rt.same (num_any _ _)))<|.cons (.g 27 0 (V12_8.gr g13) rfl)<|.cons (.g 27 0 (V11_8.gr g12) rfl)<|.cons (.s (.binOp .eql 27 (.const (.agg (pnt C.1 C.2.1 C.2.2))) (.const (.agg (pnt C.1 C.2.1 C.2.2))) 27) rfl fun vv hg=>by simp [go_sem,exI,eqPn,eqN_self])<|.cons (.g 27 0 V13_5 rfl)<|.cons (.s (.binOp .eql 27 (.const (.agg (pnt 0 0 true))) (.const (.agg (pnt 0 0 true))) 27) rfl fun vv hg=>by simp [go_sem,exI,eqPn,eqN_self]) .nil
 intro yw14 v10 hg h14
 simp only [FW,putFrom,Act.put,lqA,lqB,lqC,wvals,kW,lqD,lqE,Kw.c]
 clear h14
 replace g10:=g10.trans hg
 replace g11:=g11.trans hg
 replace g12:=g12.trans hg
 replace g13:=g13.trans hg
 replace g4:=g4.trans hg
 replace g5:=g5.trans hg
 replace g6:=g6.trans hg
 have g14:=hg
 clear hg
 replace G:=G.trans g4
 replace c9:=c9.gr g4
 replace HQ:=fun k=>(HQ k).gr g4
 replace V4_8:=V4_8.gr g5
 replace T5_7:=T5_7.gr g6
 replace V9_6:=V9_6.gr g10
 replace V10_6:=V10_6.gr g11
 replace V11_8:=V11_8.gr g12
 replace V12_8:=V12_8.gr g13
 replace V13_5:=V13_5.gr g14
 clear g10 g11 g12 g13 g14 g4 g5 g6
 go_wp2_with fail
 go_ret
 exact ⟨rfl,G⟩
end
end
end Go.Proofs.YtikilbpfhijocaaGreat