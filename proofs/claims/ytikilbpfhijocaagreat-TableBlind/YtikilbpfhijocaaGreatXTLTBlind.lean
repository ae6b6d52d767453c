import Derived.Test.YtikilbpfhijocaaGreatXTUF
import Derived.Test.YtikilbpfhijocaaGreatXTCC
namespace Go.Proofs.YtikilbpfhijocaaGreat
open Go.RowKit
set_option maxRecDepth 100000
set_option maxHeartbeats 8000000
section
attribute [local go_sem ↓] loadNat_is loadArr_is loadWide_is loadArrW_is storeNat_is storeWide_is
attribute [local go_sem] loadNat loadArr loadWide loadArrW storeNat storeWide idxArr fold9 fold18 nw_size nw_elem pre_self pre_1 pre_2 pre_3 pre_4 pre_5 pre_6 pre_7 pre_8 pre_9 pre_10 pre_11 pre_12 pre_13 pre_14 pre_15 pre_16 pre_17 pre_18 pre_19 pre_20 pre_21 pre_22 pre_23 pre_24 pre_25 pre_26 pre_27 pre_28 pre_29 pre_30 pre_31 pre_32 pre_33 pre_34 pre_35 pre_36 pre_37 pre_38 pre_39 pre_40 gro_size gro_drew gro_drewN drew_gro drewN_gro gro_gro blk_gro frz_gro blk_drew frz_drew blk_drewN frz_drewN blk_alloc_at frz_alloc_at blk_alloc frz_alloc cell_gro frozen_gro cell_alloc_pre frozen_alloc_pre setCell_drewN alloc_drewN setBlk_drew setBlk_drewN setBlk_alloc_at setBlk_alloc setBlk_gro setCell_gro setCell_alloc_pre size_setBlk size_setCell
section
attribute [local go_sem] ppre_1 ppre_2 ppre_3 ppre_4 ppre_5 ppre_6
attribute [local go_sem ↓] bsl_is loadC_is storeC_is loadPt_is storePt_is zvPt_is buildPt_is loadPn_is storePn_is zvPn_is loadCu_is storeCu_is zvCu_is buildCu_is buildPn_is Go.wp_at_zero Go.wp_at_succ
attribute [local go_sem] loadC storeC0 storeCr crA_size loadPt storePt zvPt ptA_size loadPn storePn zvPn pnt_size loadCu storeCu zvCu cu_size buildCu0 buildPnI buildPn2 loadCP loadCA loadCB loadCN loadCG loadCX loadCY cu_P cu_A cu_B cu_N cu_G cu_X cu_Y frz_setBlk blk_setBlk setBlk_setBlk blk_other
theorem ltblind_any (id z y q:Int) (w:World):Cg 4 #[.int .i64 id,.int .i64 z,.int .i64 y,.int .i64 q] w (.bool true):=by
 obtain ⟨u,hu,hu2,hk⟩:=idx_conv id
 have hbd:=idx_bd id
 obtain ⟨k,hkk⟩:∃ k,idx id=k:=⟨_,rfl⟩
 rw [hkk] at hk hbd
 obtain ⟨h1,h2⟩:=hbd
 have u0:(0:Int)≤(u:Int):=by omega
 have hk2:(1:Int)+(u:Int)%15=(k:Int):=by omega
 have hk3:IntKind.i64.wrap ((u:Int)%15)=(u:Int)%15:=by rw [IntKind.wrap_i64]; omega
 have hk4:IntKind.u64.wrap ((u:Int)%15)=(u:Int)%15:=by rw [IntKind.wrap_u64]; omega
 have hk5:(u:Int).tmod 15=(u:Int)%15:=by rw [Int.tmod_eq_emod_of_nonneg (by omega)]
 have k0:(1:Int)≤(k:Int):=by omega
 have k1:(k:Int)≤15:=by omega
 have hu3:id%18446744073709551616=(u:Int):=by rw [← hu,IntKind.wrap_u64]
 clear hkk hk
 have HGR:Hid (∀ w,Calls Tryz.prog 8 #[.int .i64 (k:Int)] w (GetQ k w)):=fun w=>getq_yes k h1 h2 w
 have HAW:Hid (∀ w,Cg 12 #[] w (.bool true)):=fun w=>awake16_any w
 go_enter Tryz.func4,Tryz.ntmps4
 go_upto_region 4 with (first
  | (go_at_call 12; refine (HAW.out _).mono ?_; rintro e WA ⟨rfl,GA⟩)
  | (go_at_call 8; refine (HGR.out _).mono ?_; rintro e WB ⟨qc,rfl,HQ,GB⟩))
 obtain ⟨e9,he9⟩:∃ b,WB.heap.size=b:=⟨_,rfl⟩
 simp only [he9]
 refine gen_w (fun v=>Gr w v∧Vr v e9 (crA (k:Int) (nN k) qc)∧∀ j,Sl v (qc j).1 (nN k j)) ?_ ?_
 ·subst he9
  exact ⟨(GA.trans GB).alloc _,Vr.new _ _ _,fun j=>(HQ j).gr ((Gr.refl _).alloc _)⟩
 clear he9 GA GB HQ HAW HGR hu hu2 hk2 hk3 hk4 hk5 hu3 u0 k0 k1
 rintro v0 ⟨G,c9,HQ⟩
 obtain ⟨P,hP⟩:∃ Z,gQ k=Z:=⟨_,rfl⟩
 have oP:OnQ k P:=hP ▸ gQ_on h1 h2
 obtain ⟨a,la,e1⟩:=and_15 z
 obtain ⟨x,e2⟩:∃ x,IntKind.i64.wrap (1+(a:Int))=x:=⟨_,rfl⟩
 have hx:((a+1:Nat):Int)=x:=by rw [← e2,IntKind.wrap_i64]; omega
 obtain ⟨n,hna⟩:∃ n,a+1=n:=⟨_,rfl⟩
 rw [hna] at hx
 have hn:1≤n∧n≤16:=by omega
 obtain ⟨m1,hm1⟩:∃ m:Nat,IntKind.u64.wrap y=(m:Int):=⟨(IntKind.u64.wrap y).toNat,by rw [IntKind.wrap_u64]; omega⟩
 obtain ⟨i,di⟩:∃ i,m1%n=i:=⟨_,rfl⟩
 have li:i<n:=di ▸ Nat.mod_lt _ (by omega)
 have ri:(m1:Int).tmod x=(i:Int):=by rw [← hx,Int.tmod_eq_emod_of_nonneg (by omega),← di]; omega
 have si:IntKind.u64.wrap (i:Int)=(i:Int):=by rw [IntKind.wrap_u64]; omega
 have ti:IntKind.i64.wrap (i:Int)=(i:Int):=by rw [IntKind.wrap_i64]; omega
 obtain ⟨m2,hm2⟩:∃ m:Nat,IntKind.u64.wrap q=(m:Int):=⟨(IntKind.u64.wrap q).toNat,by rw [IntKind.wrap_u64]; omega⟩
 obtain ⟨j,dj⟩:∃ i,m2%n=i:=⟨_,rfl⟩
 have lj:j<n:=dj ▸ Nat.mod_lt _ (by omega)
 have rj:(m2:Int).tmod x=(j:Int):=by rw [← hx,Int.tmod_eq_emod_of_nonneg (by omega),← dj]; omega
 have sj:IntKind.u64.wrap (j:Int)=(j:Int):=by rw [IntKind.wrap_u64]; omega
 have tj:IntKind.i64.wrap (j:Int)=(j:Int):=by rw [IntKind.wrap_i64]; omega
 have wx:IntKind.u64.wrap x=x:=by rw [IntKind.wrap_u64]; omega
 have x0:¬ x=0:=by omega
 obtain ⟨Y,hY⟩:∃ Z,mlQ k i P=Z:=⟨_,rfl⟩
 obtain ⟨Q,hQ⟩:∃ Z,mlQ k j P=Z:=⟨_,rfl⟩
 have hl:([]++ixs n).length=n:=by rw [List.nil_append,ixs_length]
 have hb:n≤1000000:=by omega
 clear hna la di dj
 refine wp_wS [.c (.int .i64 z),.c (.int .i64 (a:Int)),.c (.int .i64 x),.c (.int .i64 x)] [1,2] ?hs1 ?hf1
 case hs1=>
  exact .cons (.s (.binOp .and 3 (.const (.int .i64 z)) (.const (.int .i64 15)) 3) rfl fun vv hg=>by simp [go_sem,exI,e1])<|.cons (.s (.binOp .add 3 (.const (.int .i64 1)) (.const (.int .i64 (a:Int))) 3) rfl fun vv hg=>by simp [go_sem,exI,e2]) .nil
 intro yw4 v1 hg h4
 simp only [FW,putFrom,Act.put,lqA,lqB,lqC,wvals,kW,lqD,lqE,Kw.c]
 clear h4
 have g4:=hg
 clear hg
 go_upto_region 5 with fail
 refine wp_w [.c (pv e9 0),.c (.int .i64 (k:Int)),.c (.agg (crA (k:Int) (nN k) qc)),.pt (P.1) (P.2.1) P.2.2,.c (.agg (pnt P.1 P.2.1 P.2.2)),.c (.int .i64 x),.tt n (mF k P),.tt n (mF k P),.tp n (mF k P),.c (.int .i64 0),.tp n (mF k P),.c (.int .i64 0)] [1,2,3,4,6,7,8,9,10] ?hs2 ?hf2
 case hs2=>
  exact .cons (.o 3 0 (c9.gr g4) rfl rfl)<|.cons (.g 32 0 (c9.gr g4) rfl)<|.cons (.k _ fun yy vv hg hh=>RtW.of_pt (rgQ hP qc _ (fun j=>(HQ j).gr (g4.trans hg))))<|.cons (.k (fun yy => #[.agg (ptA (yy 3 0).1 (P.1) (yy 3 0).2 (yy 3 1).1 (P.2.1) (yy 3 1).2 P.2.2)]) fun yy vv hg hh=>RtW.of_c (Rt.c (rout_any _ _ _ _ _ _ _ _ (hh 3 rfl).1 (hh 3 rfl).2)))<|.cons (.k _ fun yy vv hg hh =>  ((new_tt h1 h2 oP hn hx _)))<|.cons (.m 6)<|.cons (.m 7)<|.cons (.m 7)<|.cons (.m 8) .nil
 intro yw5 v2 hg h5
 simp only [FW,putFrom,Act.put,lqA,lqB,lqC,wvals,kW,lqD,lqE,Kw.c,pv,Kw.pt,Kw.tp,Kw.tt]
 have T5_10:Tb v2 (yw5 10 0).2 (yw5 10 1).2 (yw5 10 2).2 n (mF k P):=h5 10
 clear h5
 replace g4:=g4.trans hg
 clear hg
 go_upto_region 6 with fail
 refine wp_wS [.c (.bool true),.c (.bool false),.c (.bool false),.c (.int .i64 0),.c (.int .i64 0),.c (.bool false),.c (.bool false)] [4] ?hs3 ?hf3
 case hs3=>
  refine .cons (.k _ fun yy vv hg hh=>RtW.of_c (Rt.same (num_any _ _))) .nil
 intro yw6 v3 hg h6
 simp only [FW,putFrom,Act.put,lqA,lqB,lqC,wvals,kW,lqD,lqE,Kw.c]
 clear h6
 replace g4:=g4.trans hg
 have g6:=hg
 clear hg
 replace G:=G.trans g4
 replace c9:=c9.gr g4
 replace HQ:=fun k=>(HQ k).gr g4
 replace T5_10:=T5_10.gr g6
 clear g4 g6
 go_upto_region 9 with (go_at_call 15; refine (new_any _).mono ?_; rintro e w' ⟨rfl,rfl⟩)
 refine gen_w (fun v=>Gr v3 v∧Tr v (v3.heap.size) (.slice none 0 0) []∧Tr v (v3.heap.size+1) (.slice none 0 0) []) ⟨grA,(Tr.new _).gr ((Gr.refl _).alloc _),tr_new2 _⟩ ?_
 rintro vr ⟨gU,TR0,TR1⟩
 have lt1:=TR1.lt
 go_upto_region 10 with (go_at_call 16; refine (pickR h1 h2 oP T5_10 gU (by omega) TR0 (Nat.zero_le _) hn.2 li rfl hY).mono ?_; rintro e w9 ⟨rfl,z9,hR9,gU9⟩)
 refine gen_w (fun v=>Gr v3 v∧Tr v (v3.heap.size) z9 ([]++ixs n)∧Vr v (w9.heap.size) (pnt Y.1 Y.2.1 Y.2.2)∧Tr v (v3.heap.size+1) (.slice none 0 0) []∧¬ Ow (some (v3.heap.size)) z9 (v3.heap.size+1)) ⟨gU9.alloc _,(hR9.lk _ rfl).gr ((Gr.refl _).alloc _),Vr.new _ _ _,(TR1.far hR9 fun c h h2=>by have:=own_none h; have:=own_none h2; omega).gr ((Gr.refl _).alloc _),hR9.no (fun ⟨a,e,h⟩=>by cases e; have:=own_none h; omega) lt1⟩ ?_
 clear gU  TR0 TR1
 rintro v9r ⟨gU,TR0,V9,TR1,ne9⟩
 clear hR9 gU9
 go_upto_region 11 with (go_at_call 16; refine (pickR h1 h2 oP T5_10 gU (by omega) TR1 (Nat.zero_le _) hn.2 lj rfl hQ).mono ?_; rintro e w10 ⟨rfl,z10,hR10,gU10⟩)
 refine gen_w (fun v=>Gr v3 v∧Tr v (v3.heap.size+1) z10 ([]++ixs n)∧Vr v (w10.heap.size) (pnt Q.1 Q.2.1 Q.2.2)∧Tr v (v3.heap.size) z9 ([]++ixs n)) ⟨gU10.alloc _,(hR10.lk _ rfl).gr ((Gr.refl _).alloc _),Vr.new _ _ _,(TR0.far hR10 fun c h h2=>by have:=own_none h2; subst this; exact ne9 ⟨_,rfl,h⟩).gr ((Gr.refl _).alloc _)⟩ ?_
 clear gU  TR1 TR0
 rintro v10r ⟨gU,TR1,V10,TR0⟩
 clear hR10 gU10
 go_upto_region 11 with fail
 refine wp_wS [.c (.int .i64 0),.c (.int .i64 0),.c (.bool true),.c (.bool true),.c (.int .i64 0),.c (.int .i64 0),.c (.bool true),.c (.bool true),.c (.bool true),.c (pv (v3.heap.size) 0),.ev n ([]++ixs n),.c (pv (v3.heap.size+1) 0),.ev n ([]++ixs n),.c (.bool true),.c (.bool true),.c (.bool true),.c (pv (v3.heap.size) 0),.c (.int .i64 x),.c (.int .i64 x),.c (.bool true),.c (.bool true),.c (.bool true)] [1,5,10,12,13,17,19] ?hs4 ?hf4
 case hs4=>
  exact .cons (.k _ fun yy vv hg hh=>RtW.of_c (Rt.same (num_any _ _)))<|.cons (.k _ fun yy vv hg hh=>RtW.of_c (Rt.same (num_any _ _)))<|.cons (.k _ fun yy vv hg hh =>  ((evT (TR0.gr hg) hl hb)))<|.cons (.k _ fun yy vv hg hh =>  ((evT (TR1.gr hg) hl hb)))<|.cons (.k (fun yy => #[.slice (yy 10 0).1 n (yy 10 0).2,.slice (yy 12 0).1 n (yy 12 0).2]) fun yy vv hg hh=>RtW.of_c (Rt.c (sameT (hh 10 rfl) (hh 12 rfl) hl hb)))<|.cons (.k _ fun yy vv hg hh=>RtW.of_c (Rt.same (lenT (TR0.gr hg) (len_ixs n hx))))<|.cons (.s (.binOp .eql 3 (.const (.int .i64 x)) (.const (.int .i64 x)) 3) rfl fun vv hg=>by simp [go_sem,exI]) .nil
 intro yw11 v4 hg h11
 simp only [FW,putFrom,Act.put,lqA,lqB,lqC,wvals,kW,lqD,lqE,Kw.c,pv,Kw.ev]
 clear h11
 replace gU:=gU.trans hg
 have g11:=hg
 clear hg
 replace G:=G.trans gU
 replace c9:=c9.gr gU
 replace HQ:=fun k=>(HQ k).gr gU
 replace T5_10:=T5_10.gr gU
 replace V10:=V10.gr g11
 replace TR0:=TR0.gr g11
 replace TR1:=TR1.gr g11
 clear g11 gU
 go_wp2_with fail
 go_ret
 exact ⟨rfl,G⟩
end
end
end Go.Proofs.YtikilbpfhijocaaGreat