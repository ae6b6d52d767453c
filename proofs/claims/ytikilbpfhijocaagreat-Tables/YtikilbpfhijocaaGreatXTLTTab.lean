import Derived.Test.YtikilbpfhijocaaGreatXTUF
import Derived.Test.YtikilbpfhijocaaGreatXTCC
namespace Go.Proofs.YtikilbpfhijocaaGreat
open Go.RowKit
set_option maxRecDepth 100000
set_option maxHeartbeats 8000000
section
attribute [local go_sem ↓] loadNat_is loadArr_is loadWide_is loadArrW_is storeNat_is storeWide_is
attribute [local go_sem] loadNat loadArr loadWide loadArrW storeNat storeWide idxArr fold9 fold18 nw_size nw_elem pre_self pre_1 pre_2 pre_3 pre_4 pre_5 pre_6 pre_7 pre_8 pre_9 pre_10 pre_11 pre_12 pre_13 pre_14 pre_15 pre_16 pre_17 pre_18 pre_19 pre_20 pre_21 pre_22 pre_23 pre_24 pre_25 pre_26 pre_27 pre_28 pre_29 pre_30 pre_31 pre_32 pre_33 pre_34 pre_35 pre_36 pre_37 pre_38 pre_39 pre_40 gro_size gro_drew gro_drewN drew_gro drewN_gro gro_gro blk_gro frz_gro blk_drew frz_drew blk_drewN frz_drewN blk_alloc_at frz_alloc_at blk_alloc frz_alloc cell_gro frozen_gro cell_alloc_pre frozen_alloc_pre setCell_drewN alloc_drewN setBlk_drew setBlk_drewN setBlk_alloc_at setBlk_alloc setBlk_gro setCell_gro setCell_alloc_pre size_setBlk size_setCell
section
attribute [local go_sem] ppre_1 ppre_2 ppre_3 ppre_4 ppre_5 ppre_6
attribute [local go_sem ↓] bsl_is loadC_is storeC_is loadPt_is storePt_is zvPt_is buildPt_is loadPn_is storePn_is zvPn_is loadCu_is storeCu_is zvCu_is buildCu_is buildPn_is Go.wp_at_zero Go.wp_at_succ
attribute [local go_sem] loadC storeC0 storeCr crA_size loadPt storePt zvPt ptA_size loadPn storePn zvPn pnt_size loadCu storeCu zvCu cu_size buildCu0 buildPnI buildPn2 loadCP loadCA loadCB loadCN loadCG loadCX loadCY cu_P cu_A cu_B cu_N cu_G cu_X cu_Y frz_setBlk blk_setBlk setBlk_setBlk blk_other
structure Tw (u wr:World) (t:Nat) (v vw:Value) (xs ys:List (Int×Int)):Prop where
 g:Gr u wr
 tr:Tr wr t v xs
 row:wr.ownsRow (t+1) 55 2 vw ys.length (evc ys)
 ne:∀ g,vw.ownBlock=some g→¬ Own t v g
theorem Tw.gr {u wr w':World} {t:Nat} {v vw:Value} {xs ys:List (Int×Int)} (h:Tw u wr t v vw xs ys) (k:Gr wr w'):Tw u w' t v vw xs ys:=
 ⟨h.g.trans k,h.tr.gr k,owns_kept h.row (Kp.gr k fun _=>False) fun _ _ h=>h,h.ne⟩
theorem Tw.pick {u wr w':World} {t:Nat} {v z vw:Value} {xs xs' ys:List (Int×Int)} (h:Tw u wr t v vw xs ys) (r:RecL wr.heap.size wr w' (some t) v z xs') (g:Gr u w'):Tw u w' t z vw xs' ys:=by
 refine ⟨g,r.lk t rfl,owns_kept h.row r.kp fun b hb ⟨a,e,ho⟩=>by cases e; exact h.ne b hb ho,fun b hb ho=>?_⟩
 rcases r.at' b ⟨t,rfl,ho⟩ with ⟨a,e,h2⟩ | h2
 ·cases e; exact h.ne b hb h2
 ·have:=(h.row.lt b hb).2
  omega
theorem Tw.push {u wr w2:World} {t N g cap:Nat} {v vw:Value} {xs ys:List (Int×Int)} {a1 a2:Int} {o:Obj} (h:Tw u wr t v vw xs ys) (hN:ys.length=N) (hg:(wr.alloc o).grownBy w2 vw.ownBlock)
 (ho:w2.ownsRow (t+1) 55 2 (.slice (some ⟨g,0,none⟩) (N+1) cap) (N+1) (evc ys++[.int .i64 a1,.int .i64 a2])) (hat:vw.ownBlock=some g∨g=(wr.alloc o).heap.size) (hu:u.heap.size=t:=by rfl):Tw u w2 t v (.slice (some ⟨g,0,none⟩) (N+1) cap) xs (ys++[(a1,a2)]):=by
 have k1:Gr wr (wr.alloc o):=(Gr.refl _).alloc o
 have far:∀ b,Own t v b→vw.ownBlock≠some b:=fun b hb e=>h.ne b e hb
 refine ⟨gr_kp (h.g.trans k1) (Kp.grown hg) fun b hb e=>?_,(h.tr.gr k1).kept (Kp.grown hg) far,?_,fun b hb hO=>?_⟩
 ·have:=(h.row.lt b e).1
  omega
 ·rw [evc_append,show (ys++[(a1,a2)]).length=N+1 by simp [hN]]
  exact ho
 ·cases hb
  rcases hat with e | e
  ·exact far _ hO e
  ·have h3:g<wr.heap.size:=(h.tr.own _ hO).2
   have hz:(wr.alloc o).heap.size=wr.heap.size+1:=by simp
   omega
theorem Ev.gr {w w':World} {p:Option Addr} {xs:List (Int×Int)} (h:Ev w p xs) (k:Gr w w'):Ev w' p xs:=h.kept (Kp.gr k fun _=>False) fun _ _ h=>h
theorem sameevT {w:World} {p q:Option Addr} {c d n:Nat} {xs:List (Int×Int)} (hp:Ev w p xs) (hq:Ev w q xs) (hl:xs.length=n) (hn:n≤1000000):Cg 20 #[.slice p n c,.slice q n d] w (.bool true):=by
 subst hl
 refine (sameev_any w p q xs xs c d hp hq (by omega) (by omega)).mono ?_
 rintro e w' ⟨he,m,rfl⟩
 exact ⟨by rw [he]; simp,(Gr.refl w).drewN m⟩
theorem lttab_0 (id:Int) (h:id<1∨15<id) {P:Q3} (lP:P.1<M∧P.2.1<M) (x:Int) (q:Option Addr) (L c:Nat) (w:World):Cg 3 #[.int .i64 id,.agg (pnt P.1 P.2.1 P.2.2),.int .i64 x,.slice q L c] w (.bool true):=by
 have HGR:Hid (∀ w,Cg 8 #[.int .i64 id] w (.tuple #[.agg #[.int .i64 0,.slice none 0 0,.slice none 0 0,.slice none 0 0,.slice none 0 0,.slice none 0 0,.slice none 0 0],.bool false])):=fun w=>get_no id h w
 have HAW:Hid (∀ w,Cg 12 #[] w (.bool true)):=fun w=>awake16_any w
 go_enter Tryz.func3,Tryz.ntmps3
 go_upto_region 1 with fail
 refine gen_w (fun v=>Hid (Gr w v∧Vr v (w.heap.size) (pnt P.1 P.2.1 P.2.2))) ⟨grA,vrA⟩ ?_
 intro u0 HV
 go_upto_region 2 with (go_at_call 8; refine (HGR.out _).mono ?_; rintro e WB ⟨rfl,GB⟩)
 obtain ⟨e7,he7⟩:∃ b,WB.heap.size=b:=⟨_,rfl⟩
 simp only [he7]
 refine gen_w (fun v=>Gr w v∧Vr v (w.heap.size) (pnt P.1 P.2.1 P.2.2)) ?_ ?_
 ·subst he7
  obtain ⟨G,c0⟩:=HV.out
  have g1:Gr WB (WB.alloc (.cells (#[.int .i64 0,.slice none 0 0,.slice none 0 0,.slice none 0 0,.slice none 0 0,.slice none 0 0,.slice none 0 0]) 32)):=(Gr.refl _).alloc _
  exact ⟨(G.trans GB).trans g1,(c0.gr GB).gr g1⟩
 clear he7 GB HGR HV
 rintro v0 ⟨G,c0⟩
 go_upto_region 2 with fail
 refine wp_wS [.c (.int .i64 id),.c (.agg (pnt P.1 P.2.1 P.2.2)),.c (.int .i64 x),.c (.tuple #[.pointer none,.int .i64 1600]),.c (.tuple #[.pointer none,.int .i64 1600]),.c (.pointer none),.c (.int .i64 1600),.c (.pointer none),.c (.int .i64 1600)] [1,3] ?hs1 ?hf1
 case hs1=>
  exact .cons (.g 27 0 c0 rfl)<|.cons (.k _ fun yy vv hg hh=>RtW.of_c (Rt.c (new_id id h P x _))) .nil
 intro yw2 v1 hg h2
 simp only [FW,putFrom,Act.put,lqA,lqB,lqC,wvals,kW,lqD,lqE,Kw.c]
 clear h2
 have g2:=hg
 clear hg
 go_upto_region 3 with fail
 refine wp_v false [.c (.agg (pnt P.1 P.2.1 P.2.2)),.pt (P.1) (P.2.1) P.2.2,.a,.u] [0,1] [⟨2,3,40,ptA none 0 0 none 0 0 false,fun yy=>ptA (yy 1 0).1 (P.1) (yy 1 0).2 (yy 1 1).1 (P.2.1) (yy 1 1).2 P.2.2⟩] ?hs2 ?hv2 ?hf2
 case hs2=>
  exact .cons (.g 27 0 (c0.gr g2) rfl)<|.cons (.k _ fun yy vv hg hh=>RtW.of_pt (rin_any _ _ _ lP.1 lP.2 _)) .nil
 case hv2=>
  refine .cons (.mk (fun _ _ h=>Value.agg.inj (h 1 rfl)) (fun _ v b H F=>by dsimp only at H ⊢; simp [go_sem,exI,H,F]) zPt ⟨fkc,fkp bPt,fka,fku,trivial⟩) .nil
 intro yw3 v2 hg h3 hV3
 simp only [FW,putFrom,Act.put,lqA,lqB,lqC,wvals,kW,lqD,lqE,Kw.c,Kw.a,Kw.pt,Kw.u]
 obtain ⟨S3_1,T3_1⟩:Sl v2 (yw3 1 0).1 (P.1)∧Sl v2 (yw3 1 1).1 (P.2.1):=h3 1
 obtain ⟨⟨N3_2,V3_2⟩, -⟩:(v1.heap.size≤(yw3 2 0).2∧Vr v2 (yw3 2 0).2 (ptA (yw3 1 0).1 (P.1) (yw3 1 0).2 (yw3 1 1).1 (P.2.1) (yw3 1 1).2 P.2.2))∧True:=hV3
 clear h3
 replace g2:=g2.trans hg
 clear hg
 go_upto_region 4 with fail
 refine wp_wS [.c (.bool false),.c (.bool true),.c (.bool true)] [] ?hs3 ?hf3
 case hs3=>exact .nil
 intro yw4 v3 hg h4
 simp only [FW,putFrom,Act.put,lqA,lqB,lqC,wvals,kW,lqD,lqE,Kw.c]
 clear h4
 replace g2:=g2.trans hg
 have g4:=hg
 clear hg
 go_upto_region 5 with fail
 refine wp_wS [.c (.int .i64 1600),.c (.int .i64 1600),.c (.bool true),.c (.bool true),.c (.pointer none),.c (.bool true),.c (.bool true),.c (.bool true),.c (.bool true),.c (.bool true),.c (.bool true)] [1,5,8] ?hs4 ?hf4
 case hs4=>
  exact .cons (.k _ fun yy vv hg hh=>RtW.of_c (Rt.same (num_any _ _)))<|.cons (.s (.binOp .eql 35 (.const (.pointer none)) (.const (.pointer none)) 35) rfl fun vv hg=>by simp [go_sem,exI])<|.cons (.k _ fun yy vv hg hh=>RtW.of_c (Rt.c (HAW.out _))) .nil
 intro yw5 v4 hg h5
 simp only [FW,putFrom,Act.put,lqA,lqB,lqC,wvals,kW,lqD,lqE,Kw.c]
 clear h5
 replace g2:=g2.trans hg
 replace g4:=g4.trans hg
 clear hg
 replace G:=G.trans g2
 replace c0:=c0.gr g2
 replace V3_2:=V3_2.gr g4
 replace S3_1:=S3_1.gr g4
 replace T3_1:=T3_1.gr g4
 clear g2 g4
 go_wp2_with fail
 go_ret
 exact ⟨rfl,G⟩
theorem lttab_1 {k:Nat} (h1:1≤k) (h2:k≤15) {P:Q3} (lP:P.1<M∧P.2.1<M) (oP:onB k P.1 P.2.1 P.2.2=false) (x:Int) (q:Option Addr) (L c:Nat) (w:World):Cg 3 #[.int .i64 (k:Int),.agg (pnt P.1 P.2.1 P.2.2),.int .i64 x,.slice q L c] w (.bool true):=by
 have HGR:Hid (∀ w,Calls Tryz.prog 8 #[.int .i64 (k:Int)] w (GetQ k w)):=fun w=>getq_yes k h1 h2 w
 have HAW:Hid (∀ w,Cg 12 #[] w (.bool true)):=fun w=>awake16_any w
 go_enter Tryz.func3,Tryz.ntmps3
 go_upto_region 1 with fail
 refine gen_w (fun v=>Hid (Gr w v∧Vr v (w.heap.size) (pnt P.1 P.2.1 P.2.2))) ⟨grA,vrA⟩ ?_
 intro u0 HV
 go_upto_region 2 with (go_at_call 8; refine (HGR.out _).mono ?_; rintro e WB ⟨qc,rfl,HQ,GB⟩)
 obtain ⟨e7,he7⟩:∃ b,WB.heap.size=b:=⟨_,rfl⟩
 simp only [he7]
 refine gen_w (fun v=>Gr w v∧Vr v (w.heap.size) (pnt P.1 P.2.1 P.2.2)∧Vr v e7 (crA (k:Int) (nN k) qc)∧∀ j,Sl v (qc j).1 (nN k j)) ?_ ?_
 ·subst he7
  obtain ⟨G,c0⟩:=HV.out
  have g1:Gr WB (WB.alloc (.cells (crA (k:Int) (nN k) qc) 32)):=(Gr.refl _).alloc _
  exact ⟨(G.trans GB).trans g1,(c0.gr GB).gr g1,Vr.new _ _ _,fun j=>(HQ j).gr g1⟩
 clear he7 GB HGR HV HQ
 rintro v0 ⟨G,c0,c7,HQ⟩
 go_upto_region 2 with fail
 refine wp_wS [.c (.int .i64 (k:Int)),.c (.agg (pnt P.1 P.2.1 P.2.2)),.c (.int .i64 x),.c (.tuple #[.pointer none,.int .i64 1601]),.c (.tuple #[.pointer none,.int .i64 1601]),.c (.pointer none),.c (.int .i64 1601),.c (.pointer none),.c (.int .i64 1601)] [1,3] ?hs5 ?hf5
 case hs5=>
  exact .cons (.g 27 0 c0 rfl)<|.cons (.k _ fun yy vv hg hh=>RtW.of_c (Rt.c (new_off h1 h2 lP oP x _))) .nil
 intro yw2 v1 hg h2
 simp only [FW,putFrom,Act.put,lqA,lqB,lqC,wvals,kW,lqD,lqE,Kw.c]
 clear h2
 have g2:=hg
 clear hg
 go_upto_region 3 with fail
 refine wp_v false [.c (.agg (pnt P.1 P.2.1 P.2.2)),.pt (P.1) (P.2.1) P.2.2,.a,.u] [0,1] [⟨2,3,40,ptA none 0 0 none 0 0 false,fun yy=>ptA (yy 1 0).1 (P.1) (yy 1 0).2 (yy 1 1).1 (P.2.1) (yy 1 1).2 P.2.2⟩] ?hs6 ?hv6 ?hf6
 case hs6=>
  exact .cons (.g 27 0 (c0.gr g2) rfl)<|.cons (.k _ fun yy vv hg hh=>RtW.of_pt (rin_any _ _ _ lP.1 lP.2 _)) .nil
 case hv6=>
  refine .cons (.mk (fun _ _ h=>Value.agg.inj (h 1 rfl)) (fun _ v b H F=>by dsimp only at H ⊢; simp [go_sem,exI,H,F]) zPt ⟨fkc,fkp bPt,fka,fku,trivial⟩) .nil
 intro yw3 v2 hg h3 hV3
 simp only [FW,putFrom,Act.put,lqA,lqB,lqC,wvals,kW,lqD,lqE,Kw.c,Kw.a,Kw.pt,Kw.u]
 obtain ⟨S3_1,T3_1⟩:Sl v2 (yw3 1 0).1 (P.1)∧Sl v2 (yw3 1 1).1 (P.2.1):=h3 1
 obtain ⟨⟨N3_2,V3_2⟩, -⟩:(v1.heap.size≤(yw3 2 0).2∧Vr v2 (yw3 2 0).2 (ptA (yw3 1 0).1 (P.1) (yw3 1 0).2 (yw3 1 1).1 (P.2.1) (yw3 1 1).2 P.2.2))∧True:=hV3
 clear h3
 replace g2:=g2.trans hg
 clear hg
 go_upto_region 4 with fail
 refine wp_wS [.c (.bool true),.c (.bool false),.c (.bool false)] [] ?hs7 ?hf7
 case hs7=>exact .nil
 intro yw4 v3 hg h4
 simp only [FW,putFrom,Act.put,lqA,lqB,lqC,wvals,kW,lqD,lqE,Kw.c]
 clear h4
 replace g2:=g2.trans hg
 have g4:=hg
 clear hg
 go_upto_region 6 with fail
 refine wp_wS [.c (.agg (crA (k:Int) (nN k) qc)),.c (.agg (ptA (yw3 1 0).1 (P.1) (yw3 1 0).2 (yw3 1 1).1 (P.2.1) (yw3 1 1).2 P.2.2)),.c (.bool false),.c (.bool true),.c (.bool true)] [0,1,2] ?hs8 ?hf8
 case hs8=>
  exact .cons (.g 32 0 (c7.gr g2) rfl)<|.cons (.g 40 0 (V3_2.gr g4) rfl)<|.cons (.k (fun yy => #[.agg (crA (k:Int) (nN k) qc),.agg (ptA (yw3 1 0).1 (P.1) (yw3 1 0).2 (yw3 1 1).1 (P.2.1) (yw3 1 1).2 P.2.2)]) fun yy vv hg hh=>RtW.of_c (ron_is h1 h2 lP oP qc (fun j=>(HQ j).gr (g2.trans hg)) (S3_1.gr (g4.trans hg)) (T3_1.gr (g4.trans hg)))) .nil
 intro yw6 v4 hg h6
 simp only [FW,putFrom,Act.put,lqA,lqB,lqC,wvals,kW,lqD,lqE,Kw.c]
 clear h6
 replace g2:=g2.trans hg
 replace g4:=g4.trans hg
 clear hg
 go_upto_region 7 with fail
 refine wp_wS [.c (.int .i64 1601),.c (.int .i64 1601),.c (.bool true),.c (.bool true),.c (.pointer none),.c (.bool true),.c (.bool true),.c (.bool true),.c (.bool true),.c (.bool true),.c (.bool true)] [1,5,8] ?hs9 ?hf9
 case hs9=>
  exact .cons (.k _ fun yy vv hg hh=>RtW.of_c (Rt.same (num_any _ _)))<|.cons (.s (.binOp .eql 35 (.const (.pointer none)) (.const (.pointer none)) 35) rfl fun vv hg=>by simp [go_sem,exI])<|.cons (.k _ fun yy vv hg hh=>RtW.of_c (Rt.c (HAW.out _))) .nil
 intro yw7 v5 hg h7
 simp only [FW,putFrom,Act.put,lqA,lqB,lqC,wvals,kW,lqD,lqE,Kw.c]
 clear h7
 replace g2:=g2.trans hg
 replace g4:=g4.trans hg
 clear hg
 replace G:=G.trans g2
 replace c0:=c0.gr g2
 replace c7:=c7.gr g2
 replace HQ:=fun k=>(HQ k).gr g2
 replace V3_2:=V3_2.gr g4
 replace S3_1:=S3_1.gr g4
 replace T3_1:=T3_1.gr g4
 clear g2 g4
 go_wp2_with fail
 go_ret
 exact ⟨rfl,G⟩
theorem lttab_2 {k:Nat} (h1:1≤k) (h2:k≤15) {P:Q3} (lP:P.1<M∧P.2.1<M) (oP:OnQ k P) (x:Int) (x1:x<1) (q:Option Addr) (L c:Nat) (w:World):Cg 3 #[.int .i64 (k:Int),.agg (pnt P.1 P.2.1 P.2.2),.int .i64 x,.slice q L c] w (.bool true):=by
 have HGR:Hid (∀ w,Calls Tryz.prog 8 #[.int .i64 (k:Int)] w (GetQ k w)):=fun w=>getq_yes k h1 h2 w
 have HAW:Hid (∀ w,Cg 12 #[] w (.bool true)):=fun w=>awake16_any w
 have hx:x<1∨16<x:=Or.inl x1
 go_enter Tryz.func3,Tryz.ntmps3
 go_upto_region 1 with fail
 refine gen_w (fun v=>Hid (Gr w v∧Vr v (w.heap.size) (pnt P.1 P.2.1 P.2.2))) ⟨grA,vrA⟩ ?_
 intro u0 HV
 go_upto_region 2 with (go_at_call 8; refine (HGR.out _).mono ?_; rintro e WB ⟨qc,rfl,HQ,GB⟩)
 obtain ⟨e7,he7⟩:∃ b,WB.heap.size=b:=⟨_,rfl⟩
 simp only [he7]
 refine gen_w (fun v=>Gr w v∧Vr v (w.heap.size) (pnt P.1 P.2.1 P.2.2)∧Vr v e7 (crA (k:Int) (nN k) qc)∧∀ j,Sl v (qc j).1 (nN k j)) ?_ ?_
 ·subst he7
  obtain ⟨G,c0⟩:=HV.out
  have g1:Gr WB (WB.alloc (.cells (crA (k:Int) (nN k) qc) 32)):=(Gr.refl _).alloc _
  exact ⟨(G.trans GB).trans g1,(c0.gr GB).gr g1,Vr.new _ _ _,fun j=>(HQ j).gr g1⟩
 clear he7 GB HGR HV HQ
 rintro v0 ⟨G,c0,c7,HQ⟩
 go_upto_region 2 with fail
 refine wp_wS [.c (.int .i64 (k:Int)),.c (.agg (pnt P.1 P.2.1 P.2.2)),.c (.int .i64 x),.c (.tuple #[.pointer none,.int .i64 1602]),.c (.tuple #[.pointer none,.int .i64 1602]),.c (.pointer none),.c (.int .i64 1602),.c (.pointer none),.c (.int .i64 1602)] [1,3] ?hs10 ?hf10
 case hs10=>
  exact .cons (.g 27 0 c0 rfl)<|.cons (.k _ fun yy vv hg hh=>RtW.of_c (Rt.c (new_size h1 h2 oP hx _))) .nil
 intro yw2 v1 hg h2
 simp only [FW,putFrom,Act.put,lqA,lqB,lqC,wvals,kW,lqD,lqE,Kw.c]
 clear h2
 have g2:=hg
 clear hg
 go_upto_region 3 with fail
 refine wp_v false [.c (.agg (pnt P.1 P.2.1 P.2.2)),.pt (P.1) (P.2.1) P.2.2,.a,.u] [0,1] [⟨2,3,40,ptA none 0 0 none 0 0 false,fun yy=>ptA (yy 1 0).1 (P.1) (yy 1 0).2 (yy 1 1).1 (P.2.1) (yy 1 1).2 P.2.2⟩] ?hs11 ?hv11 ?hf11
 case hs11=>
  exact .cons (.g 27 0 (c0.gr g2) rfl)<|.cons (.k _ fun yy vv hg hh=>RtW.of_pt (rin_any _ _ _ lP.1 lP.2 _)) .nil
 case hv11=>
  refine .cons (.mk (fun _ _ h=>Value.agg.inj (h 1 rfl)) (fun _ v b H F=>by dsimp only at H ⊢; simp [go_sem,exI,H,F]) zPt ⟨fkc,fkp bPt,fka,fku,trivial⟩) .nil
 intro yw3 v2 hg h3 hV3
 simp only [FW,putFrom,Act.put,lqA,lqB,lqC,wvals,kW,lqD,lqE,Kw.c,Kw.a,Kw.pt,Kw.u]
 obtain ⟨S3_1,T3_1⟩:Sl v2 (yw3 1 0).1 (P.1)∧Sl v2 (yw3 1 1).1 (P.2.1):=h3 1
 obtain ⟨⟨N3_2,V3_2⟩, -⟩:(v1.heap.size≤(yw3 2 0).2∧Vr v2 (yw3 2 0).2 (ptA (yw3 1 0).1 (P.1) (yw3 1 0).2 (yw3 1 1).1 (P.2.1) (yw3 1 1).2 P.2.2))∧True:=hV3
 clear h3
 replace g2:=g2.trans hg
 clear hg
 go_upto_region 4 with fail
 refine wp_wS [.c (.bool true),.c (.bool false),.c (.bool false)] [] ?hs12 ?hf12
 case hs12=>exact .nil
 intro yw4 v3 hg h4
 simp only [FW,putFrom,Act.put,lqA,lqB,lqC,wvals,kW,lqD,lqE,Kw.c]
 clear h4
 replace g2:=g2.trans hg
 have g4:=hg
 clear hg
 go_upto_region 6 with fail
 refine wp_wS [.c (.agg (crA (k:Int) (nN k) qc)),.c (.agg (ptA (yw3 1 0).1 (P.1) (yw3 1 0).2 (yw3 1 1).1 (P.2.1) (yw3 1 1).2 P.2.2)),.c (.bool true),.c (.bool false),.c (.bool false)] [0,1,2] ?hs13 ?hf13
 case hs13=>
  exact .cons (.g 32 0 (c7.gr g2) rfl)<|.cons (.g 40 0 (V3_2.gr g4) rfl)<|.cons (.k (fun yy => #[.agg (crA (k:Int) (nN k) qc),.agg (ptA (yw3 1 0).1 (P.1) (yw3 1 0).2 (yw3 1 1).1 (P.2.1) (yw3 1 1).2 P.2.2)]) fun yy vv hg hh=>RtW.of_c (ron_is h1 h2 lP oP qc (fun j=>(HQ j).gr (g2.trans hg)) (S3_1.gr (g4.trans hg)) (T3_1.gr (g4.trans hg)))) .nil
 intro yw6 v4 hg h6
 simp only [FW,putFrom,Act.put,lqA,lqB,lqC,wvals,kW,lqD,lqE,Kw.c]
 clear h6
 replace g2:=g2.trans hg
 replace g4:=g4.trans hg
 clear hg
 go_upto_region 8 with fail
 refine wp_wS [.c (.int .i64 x),.c (.bool true),.c (.bool true),.u,.u,.c (.bool true),.c (.bool true)] [1] ?hs14 ?hf14
 case hs14=>
  refine .cons (.s (.binOp .lss 3 (.const (.int .i64 x)) (.const (.int .i64 1)) 3) rfl fun vv hg=>by simp [go_sem,exI,x1]) .nil
 intro yw8 v5 hg h8
 simp only [FW,putFrom,Act.put,lqA,lqB,lqC,wvals,kW,lqD,lqE,Kw.c,Kw.u]
 clear h8
 replace g2:=g2.trans hg
 replace g4:=g4.trans hg
 clear hg
 go_upto_region 9 with fail
 refine wp_wS [.c (.int .i64 1602),.c (.int .i64 1602),.c (.bool true),.c (.bool true),.c (.pointer none),.c (.bool true),.c (.bool true),.c (.bool true),.c (.bool true),.c (.bool true),.c (.bool true)] [1,5,8] ?hs15 ?hf15
 case hs15=>
  exact .cons (.k _ fun yy vv hg hh=>RtW.of_c (Rt.same (num_any _ _)))<|.cons (.s (.binOp .eql 35 (.const (.pointer none)) (.const (.pointer none)) 35) rfl fun vv hg=>by simp [go_sem,exI])<|.cons (.k _ fun yy vv hg hh=>RtW.of_c (Rt.c (HAW.out _))) .nil
 intro yw9 v6 hg h9
 simp only [FW,putFrom,Act.put,lqA,lqB,lqC,wvals,kW,lqD,lqE,Kw.c]
 clear h9
 replace g2:=g2.trans hg
 replace g4:=g4.trans hg
 clear hg
 replace G:=G.trans g2
 replace c0:=c0.gr g2
 replace c7:=c7.gr g2
 replace HQ:=fun k=>(HQ k).gr g2
 replace V3_2:=V3_2.gr g4
 replace S3_1:=S3_1.gr g4
 replace T3_1:=T3_1.gr g4
 clear g2 g4
 go_wp2_with fail
 go_ret
 exact ⟨rfl,G⟩
theorem lttab_3 {k:Nat} (h1:1≤k) (h2:k≤15) {P:Q3} (lP:P.1<M∧P.2.1<M) (oP:OnQ k P) (x:Int) (x1:¬ x<1) (x2:16<x) (q:Option Addr) (L c:Nat) (w:World):Cg 3 #[.int .i64 (k:Int),.agg (pnt P.1 P.2.1 P.2.2),.int .i64 x,.slice q L c] w (.bool true):=by
 have HGR:Hid (∀ w,Calls Tryz.prog 8 #[.int .i64 (k:Int)] w (GetQ k w)):=fun w=>getq_yes k h1 h2 w
 have HAW:Hid (∀ w,Cg 12 #[] w (.bool true)):=fun w=>awake16_any w
 have hx:x<1∨16<x:=Or.inr x2
 go_enter Tryz.func3,Tryz.ntmps3
 go_upto_region 1 with fail
 refine gen_w (fun v=>Hid (Gr w v∧Vr v (w.heap.size) (pnt P.1 P.2.1 P.2.2))) ⟨grA,vrA⟩ ?_
 intro u0 HV
 go_upto_region 2 with (go_at_call 8; refine (HGR.out _).mono ?_; rintro e WB ⟨qc,rfl,HQ,GB⟩)
 obtain ⟨e7,he7⟩:∃ b,WB.heap.size=b:=⟨_,rfl⟩
 simp only [he7]
 refine gen_w (fun v=>Gr w v∧Vr v (w.heap.size) (pnt P.1 P.2.1 P.2.2)∧Vr v e7 (crA (k:Int) (nN k) qc)∧∀ j,Sl v (qc j).1 (nN k j)) ?_ ?_
 ·subst he7
  obtain ⟨G,c0⟩:=HV.out
  have g1:Gr WB (WB.alloc (.cells (crA (k:Int) (nN k) qc) 32)):=(Gr.refl _).alloc _
  exact ⟨(G.trans GB).trans g1,(c0.gr GB).gr g1,Vr.new _ _ _,fun j=>(HQ j).gr g1⟩
 clear he7 GB HGR HV HQ
 rintro v0 ⟨G,c0,c7,HQ⟩
 go_upto_region 2 with fail
 refine wp_wS [.c (.int .i64 (k:Int)),.c (.agg (pnt P.1 P.2.1 P.2.2)),.c (.int .i64 x),.c (.tuple #[.pointer none,.int .i64 1602]),.c (.tuple #[.pointer none,.int .i64 1602]),.c (.pointer none),.c (.int .i64 1602),.c (.pointer none),.c (.int .i64 1602)] [1,3] ?hs16 ?hf16
 case hs16=>
  exact .cons (.g 27 0 c0 rfl)<|.cons (.k _ fun yy vv hg hh=>RtW.of_c (Rt.c (new_size h1 h2 oP hx _))) .nil
 intro yw2 v1 hg h2
 simp only [FW,putFrom,Act.put,lqA,lqB,lqC,wvals,kW,lqD,lqE,Kw.c]
 clear h2
 have g2:=hg
 clear hg
 go_upto_region 3 with fail
 refine wp_v false [.c (.agg (pnt P.1 P.2.1 P.2.2)),.pt (P.1) (P.2.1) P.2.2,.a,.u] [0,1] [⟨2,3,40,ptA none 0 0 none 0 0 false,fun yy=>ptA (yy 1 0).1 (P.1) (yy 1 0).2 (yy 1 1).1 (P.2.1) (yy 1 1).2 P.2.2⟩] ?hs17 ?hv17 ?hf17
 case hs17=>
  exact .cons (.g 27 0 (c0.gr g2) rfl)<|.cons (.k _ fun yy vv hg hh=>RtW.of_pt (rin_any _ _ _ lP.1 lP.2 _)) .nil
 case hv17=>
  refine .cons (.mk (fun _ _ h=>Value.agg.inj (h 1 rfl)) (fun _ v b H F=>by dsimp only at H ⊢; simp [go_sem,exI,H,F]) zPt ⟨fkc,fkp bPt,fka,fku,trivial⟩) .nil
 intro yw3 v2 hg h3 hV3
 simp only [FW,putFrom,Act.put,lqA,lqB,lqC,wvals,kW,lqD,lqE,Kw.c,Kw.a,Kw.pt,Kw.u]
 obtain ⟨S3_1,T3_1⟩:Sl v2 (yw3 1 0).1 (P.1)∧Sl v2 (yw3 1 1).1 (P.2.1):=h3 1
 obtain ⟨⟨N3_2,V3_2⟩, -⟩:(v1.heap.size≤(yw3 2 0).2∧Vr v2 (yw3 2 0).2 (ptA (yw3 1 0).1 (P.1) (yw3 1 0).2 (yw3 1 1).1 (P.2.1) (yw3 1 1).2 P.2.2))∧True:=hV3
 clear h3
 replace g2:=g2.trans hg
 clear hg
 go_upto_region 4 with fail
 refine wp_wS [.c (.bool true),.c (.bool false),.c (.bool false)] [] ?hs18 ?hf18
 case hs18=>exact .nil
 intro yw4 v3 hg h4
 simp only [FW,putFrom,Act.put,lqA,lqB,lqC,wvals,kW,lqD,lqE,Kw.c]
 clear h4
 replace g2:=g2.trans hg
 have g4:=hg
 clear hg
 go_upto_region 6 with fail
 refine wp_wS [.c (.agg (crA (k:Int) (nN k) qc)),.c (.agg (ptA (yw3 1 0).1 (P.1) (yw3 1 0).2 (yw3 1 1).1 (P.2.1) (yw3 1 1).2 P.2.2)),.c (.bool true),.c (.bool false),.c (.bool false)] [0,1,2] ?hs19 ?hf19
 case hs19=>
  exact .cons (.g 32 0 (c7.gr g2) rfl)<|.cons (.g 40 0 (V3_2.gr g4) rfl)<|.cons (.k (fun yy => #[.agg (crA (k:Int) (nN k) qc),.agg (ptA (yw3 1 0).1 (P.1) (yw3 1 0).2 (yw3 1 1).1 (P.2.1) (yw3 1 1).2 P.2.2)]) fun yy vv hg hh=>RtW.of_c (ron_is h1 h2 lP oP qc (fun j=>(HQ j).gr (g2.trans hg)) (S3_1.gr (g4.trans hg)) (T3_1.gr (g4.trans hg)))) .nil
 intro yw6 v4 hg h6
 simp only [FW,putFrom,Act.put,lqA,lqB,lqC,wvals,kW,lqD,lqE,Kw.c]
 clear h6
 replace g2:=g2.trans hg
 replace g4:=g4.trans hg
 clear hg
 go_upto_region 8 with fail
 refine wp_wS [.c (.int .i64 x),.c (.bool false),.c (.bool false),.c (.int .i64 x),.c (.bool true),.c (.bool true),.c (.bool true)] [1,4] ?hs20 ?hf20
 case hs20=>
  exact .cons (.s (.binOp .lss 3 (.const (.int .i64 x)) (.const (.int .i64 1)) 3) rfl fun vv hg=>by simp [go_sem,exI,x1])<|.cons (.s (.binOp .gtr 3 (.const (.int .i64 x)) (.const (.int .i64 16)) 3) rfl fun vv hg=>by simp [go_sem,exI,x2]) .nil
 intro yw8 v5 hg h8
 simp only [FW,putFrom,Act.put,lqA,lqB,lqC,wvals,kW,lqD,lqE,Kw.c]
 clear h8
 replace g2:=g2.trans hg
 replace g4:=g4.trans hg
 clear hg
 go_upto_region 9 with fail
 refine wp_wS [.c (.int .i64 1602),.c (.int .i64 1602),.c (.bool true),.c (.bool true),.c (.pointer none),.c (.bool true),.c (.bool true),.c (.bool true),.c (.bool true),.c (.bool true),.c (.bool true)] [1,5,8] ?hs21 ?hf21
 case hs21=>
  exact .cons (.k _ fun yy vv hg hh=>RtW.of_c (Rt.same (num_any _ _)))<|.cons (.s (.binOp .eql 35 (.const (.pointer none)) (.const (.pointer none)) 35) rfl fun vv hg=>by simp [go_sem,exI])<|.cons (.k _ fun yy vv hg hh=>RtW.of_c (Rt.c (HAW.out _))) .nil
 intro yw9 v6 hg h9
 simp only [FW,putFrom,Act.put,lqA,lqB,lqC,wvals,kW,lqD,lqE,Kw.c]
 clear h9
 replace g2:=g2.trans hg
 replace g4:=g4.trans hg
 clear hg
 replace G:=G.trans g2
 replace c0:=c0.gr g2
 replace c7:=c7.gr g2
 replace HQ:=fun k=>(HQ k).gr g2
 replace V3_2:=V3_2.gr g4
 replace S3_1:=S3_1.gr g4
 replace T3_1:=T3_1.gr g4
 clear g2 g4
 go_wp2_with fail
 go_ret
 exact ⟨rfl,G⟩
theorem lttab_4 {k:Nat} (h1:1≤k) (h2:k≤15) {P:Q3} (lP:P.1<M∧P.2.1<M) (oP:OnQ k P) {n:Nat} (hn:1≤n∧n≤16) {x:Int} (hx:(n:Int)=x) (q:Option Addr) (L c:Nat) (pk:Nat→Int) (w:World) (hI:Iv w q L pk):Cg 3 #[.int .i64 (k:Int),.agg (pnt P.1 P.2.1 P.2.2),.int .i64 x,.slice q L c] w (.bool true):=by
 have HGR:Hid (∀ w,Calls Tryz.prog 8 #[.int .i64 (k:Int)] w (GetQ k w)):=fun w=>getq_yes k h1 h2 w
 have HAW:Hid (∀ w,Cg 12 #[] w (.bool true)):=fun w=>awake16_any w
 have x1:¬ x<1:=by omega
 have x2:¬ 16<x:=by omega
 obtain ⟨i00,hi0,hz0,hz1,hz2⟩:=info_parts Tryz.infoEv
 have HI:Hid (Iv w q L pk):=hI
 clear hI
 go_enter Tryz.func3,Tryz.ntmps3
 go_upto_region 1 with fail
 refine gen_w (fun v=>Hid (Gr w v∧Vr v (w.heap.size) (pnt P.1 P.2.1 P.2.2))) ⟨grA,vrA⟩ ?_
 intro u0 HV
 go_upto_region 2 with (go_at_call 8; refine (HGR.out _).mono ?_; rintro e WB ⟨qc,rfl,HQ,GB⟩)
 obtain ⟨e7,he7⟩:∃ b,WB.heap.size=b:=⟨_,rfl⟩
 simp only [he7]
 refine gen_w (fun v=>Gr w v∧Vr v (w.heap.size) (pnt P.1 P.2.1 P.2.2)∧Vr v e7 (crA (k:Int) (nN k) qc)∧∀ j,Sl v (qc j).1 (nN k j)) ?_ ?_
 ·subst he7
  obtain ⟨G,c0⟩:=HV.out
  have g1:Gr WB (WB.alloc (.cells (crA (k:Int) (nN k) qc) 32)):=(Gr.refl _).alloc _
  exact ⟨(G.trans GB).trans g1,(c0.gr GB).gr g1,Vr.new _ _ _,fun j=>(HQ j).gr g1⟩
 clear he7 GB HGR HV HQ
 rintro v0 ⟨G,c0,c7,HQ⟩
 go_upto_region 2 with fail
 refine wp_wS [.c (.int .i64 (k:Int)),.c (.agg (pnt P.1 P.2.1 P.2.2)),.c (.int .i64 x),.tt n (mF k P),.tt n (mF k P),.tp n (mF k P),.c (.int .i64 0),.tp n (mF k P),.c (.int .i64 0)] [1,3,4,5,6,7] ?hs22 ?hf22
 case hs22=>
  exact .cons (.g 27 0 c0 rfl)<|.cons (.k _ fun yy vv hg hh =>  ((new_tt h1 h2 oP hn hx _)))<|.cons (.m 3)<|.cons (.m 4)<|.cons (.m 4)<|.cons (.m 5) .nil
 intro yw2 v1 hg h2
 simp only [FW,putFrom,Act.put,lqA,lqB,lqC,wvals,kW,lqD,lqE,Kw.c,Kw.tp,Kw.tt]
 have T2_7:Tb v1 (yw2 7 0).2 (yw2 7 1).2 (yw2 7 2).2 n (mF k P):=h2 7
 clear h2
 have g2:=hg
 clear hg
 go_upto_region 3 with fail
 refine wp_v false [.c (.agg (pnt P.1 P.2.1 P.2.2)),.pt (P.1) (P.2.1) P.2.2,.a,.u] [0,1] [⟨2,3,40,ptA none 0 0 none 0 0 false,fun yy=>ptA (yy 1 0).1 (P.1) (yy 1 0).2 (yy 1 1).1 (P.2.1) (yy 1 1).2 P.2.2⟩] ?hs23 ?hv23 ?hf23
 case hs23=>
  exact .cons (.g 27 0 (c0.gr g2) rfl)<|.cons (.k _ fun yy vv hg hh=>RtW.of_pt (rin_any _ _ _ lP.1 lP.2 _)) .nil
 case hv23=>
  refine .cons (.mk (fun _ _ h=>Value.agg.inj (h 1 rfl)) (fun _ v b H F=>by dsimp only at H ⊢; simp [go_sem,exI,H,F]) zPt ⟨fkc,fkp bPt,fka,fku,trivial⟩) .nil
 intro yw3 v2 hg h3 hV3
 simp only [FW,putFrom,Act.put,lqA,lqB,lqC,wvals,kW,lqD,lqE,Kw.c,Kw.a,Kw.pt,Kw.u]
 obtain ⟨S3_1,T3_1⟩:Sl v2 (yw3 1 0).1 (P.1)∧Sl v2 (yw3 1 1).1 (P.2.1):=h3 1
 obtain ⟨⟨N3_2,V3_2⟩, -⟩:(v1.heap.size≤(yw3 2 0).2∧Vr v2 (yw3 2 0).2 (ptA (yw3 1 0).1 (P.1) (yw3 1 0).2 (yw3 1 1).1 (P.2.1) (yw3 1 1).2 P.2.2))∧True:=hV3
 clear h3
 replace g2:=g2.trans hg
 have g3:=hg
 clear hg
 go_upto_region 4 with fail
 refine wp_wS [.c (.bool true),.c (.bool false),.c (.bool false)] [] ?hs24 ?hf24
 case hs24=>exact .nil
 intro yw4 v3 hg h4
 simp only [FW,putFrom,Act.put,lqA,lqB,lqC,wvals,kW,lqD,lqE,Kw.c]
 clear h4
 replace g2:=g2.trans hg
 replace g3:=g3.trans hg
 have g4:=hg
 clear hg
 go_upto_region 6 with fail
 refine wp_wS [.c (.agg (crA (k:Int) (nN k) qc)),.c (.agg (ptA (yw3 1 0).1 (P.1) (yw3 1 0).2 (yw3 1 1).1 (P.2.1) (yw3 1 1).2 P.2.2)),.c (.bool true),.c (.bool false),.c (.bool false)] [0,1,2] ?hs25 ?hf25
 case hs25=>
  exact .cons (.g 32 0 (c7.gr g2) rfl)<|.cons (.g 40 0 (V3_2.gr g4) rfl)<|.cons (.k (fun yy => #[.agg (crA (k:Int) (nN k) qc),.agg (ptA (yw3 1 0).1 (P.1) (yw3 1 0).2 (yw3 1 1).1 (P.2.1) (yw3 1 1).2 P.2.2)]) fun yy vv hg hh=>RtW.of_c (ron_is h1 h2 lP oP qc (fun j=>(HQ j).gr (g2.trans hg)) (S3_1.gr (g4.trans hg)) (T3_1.gr (g4.trans hg)))) .nil
 intro yw6 v4 hg h6
 simp only [FW,putFrom,Act.put,lqA,lqB,lqC,wvals,kW,lqD,lqE,Kw.c]
 clear h6
 replace g2:=g2.trans hg
 replace g3:=g3.trans hg
 replace g4:=g4.trans hg
 clear hg
 go_upto_region 8 with fail
 refine wp_wS [.c (.int .i64 x),.c (.bool false),.c (.bool false),.c (.int .i64 x),.c (.bool false),.c (.bool false),.c (.bool false)] [1,4] ?hs26 ?hf26
 case hs26=>
  exact .cons (.s (.binOp .lss 3 (.const (.int .i64 x)) (.const (.int .i64 1)) 3) rfl fun vv hg=>by simp [go_sem,exI,x1])<|.cons (.s (.binOp .gtr 3 (.const (.int .i64 x)) (.const (.int .i64 16)) 3) rfl fun vv hg=>by simp [go_sem,exI,x2]) .nil
 intro yw8 v5 hg h8
 simp only [FW,putFrom,Act.put,lqA,lqB,lqC,wvals,kW,lqD,lqE,Kw.c]
 clear h8
 replace g2:=g2.trans hg
 replace g3:=g3.trans hg
 replace g4:=g4.trans hg
 clear hg
 go_upto_region 10 with fail
 refine wp_wS [.c (.int .i64 0),.c (.int .i64 0),.c (.bool false),.c (.bool false),.c (pv ((yw2 7 0).2) 0),.c (.bool false),.c (.bool false),.c (.bool false),.c (pv ((yw2 7 0).2) 0),.c (.int .i64 (n:Nat)),.c (.int .i64 x),.c (.bool false),.c (.bool false)] [1,5,9,11] ?hs27 ?hf27
 case hs27=>
  exact .cons (.k _ fun yy vv hg hh=>RtW.of_c (Rt.same (num_any _ _)))<|.cons (.s (.binOp .eql 35 (.const (.pointer (some ⟨(yw2 7 0).2,0,none⟩))) (.const (.pointer none)) 35) rfl fun vv hg=>by simp [go_sem,exI])<|.cons (.k _ fun yy vv hg hh=>RtW.of_c (Rt.c (sizeT (T2_7.gr (g3.trans hg)))))<|.cons (.s (.binOp .neq 3 (.const (.int .i64 (n:Nat))) (.const (.int .i64 x)) 3) rfl fun vv hg=>by simp [go_sem,exI,hx]) .nil
 intro yw10 v6 hg h10
 simp only [FW,putFrom,Act.put,lqA,lqB,lqC,wvals,kW,lqD,lqE,Kw.c,pv]
 clear h10
 replace g2:=g2.trans hg
 replace g3:=g3.trans hg
 replace g4:=g4.trans hg
 clear hg
 replace G:=G.trans g2
 replace c0:=c0.gr g2
 replace c7:=c7.gr g2
 replace HQ:=fun k=>(HQ k).gr g2
 replace T2_7:=T2_7.gr g3
 replace V3_2:=V3_2.gr g4
 replace S3_1:=S3_1.gr g4
 replace T3_1:=T3_1.gr g4
 clear g2 g3 g4
 go_upto_region 13 with (go_at_call 15; refine (new_any _).mono ?_; rintro e w' ⟨rfl,rfl⟩)
 refine gen_w (fun v=>Gr v6 v∧Tr v (v6.heap.size) (.slice none 0 0) []) ⟨grA,Tr.new _⟩ ?_
 rintro vr ⟨gU,TR0⟩
 have TW:Tw v6 vr (v6.heap.size) (.slice none 0 0) (.slice none 0 0) [] []:=⟨gU,TR0,World.ownsRow_nil _ _ _ _,fun g h=>by cases h⟩
 have HT0:Hid (Tw v6 vr (v6.heap.size) (.slice none 0 0) (.slice none 0 0) [] []):=TW
 clear gU TR0 TW
 go_wp2_with fail
 go_loopw [15,16] (fun vw im wr=>∃ (m:Nat) (xs:List (Int×Int)) (v:Value),im=.int .i64 (m:Int)∧Hid (Unit→m≤L∧m≤12)∧Hid (Unit→xs.length≤16*m)∧Hid (Tw v6 wr (v6.heap.size) v vw xs xs)) (fun _ im _=>12-(intOf im).toNat)
 case atStart=>exact ⟨0,[],.slice none 0 0,rfl,fun _=>by omega,fun _=>by decide,HT0⟩
 case round=>
  clear HT0
  obtain ⟨m,xs,v,rfl,HM,HX,HT⟩:=hrel
  have TW:=HT.out
  have hm:=HM.out ()
  have hxs:=HX.out ()
  by_cases hlt:m<L∧m<12
  ·obtain ⟨l1,l2⟩:=hlt
   have i0:(0:Int)≤(m:Int):=by omega
   have i1:(m:Int)<(L:Int):=by omega
   have i2:(m:Int)<12:=by omega
   have hxl:xs.length≤900000:=by omega
   obtain ⟨b,o,rfl,hb0,hc⟩:∃ b o,q=some ⟨b,o,none⟩∧b<w.heap.size∧∀ i,i<L→w.cell? ⟨b,o+i,none⟩=some (.int .i64 (pk i)):=by
    rcases HI.out with h | h
    ·omega
    ·exact h
   have ec0:=hc m l1
   obtain ⟨a,ha⟩:∃ a,pk m=a:=⟨_,rfl⟩
   rw [ha] at ec0
   have ec:∀ {v:World},Gr v6 v→v.cell? ⟨b,o+m,none⟩=some (.int .i64 a):=fun g=>(World.cell?_of_block (w:=w) ((G.trans g).below.block b hb0)).trans ec0
   have gU:=TW.g
   clear hc ha ec0 HT HX HM HI
   by_cases a1:a<0
   ·skip
    have y1:a<0:=by omega
    have hy:a<0∨(n:Int)≤a:=by omega
    go_upto_region 17 with fail
    refine wp_v false [.c (pv ((yw2 7 0).2) 0),.c (pv (v6.heap.size) 0),.c (.slice (some ⟨b,o,none⟩) L c),.c (.int .i64 (m:Int)),.c (pv b (o+m)),.c (.int .i64 a),.c (.tuple #[.agg (pnt 0 0 false),.int .i64 1603]),.c (.tuple #[.agg (pnt 0 0 false),.int .i64 1603]),.c (.agg (pnt 0 0 false)),.c (.int .i64 1603),.a,.u,.c (.int .i64 1603)] [4,5,6] [⟨10,11,27,pnt 0 0 false,fun _=>pnt 0 0 false⟩] ?hs28 ?hv28 ?hf28
    case hs28=>
     exact .cons (.s (.indexAddr 28 (.const (.slice (some ⟨b,o,none⟩) L c)) (.const (.int .i64 (m:Int)))) rfl fun vv hg=>by simp [go_sem,exI,i0,i1])<|.cons (.s (.load 3 (.const (.pointer (some ⟨b,o+m,none⟩)))) rfl fun vv hg=>by simp [go_sem,exI,(ec (gU.trans hg))])<|.cons (.k _ fun yy vv hg hh=>RtW.of_c (Rt.c (pickE (T2_7.gr (gU.trans hg)) (.pointer (some ⟨v6.heap.size,0,none⟩)) hy))) .nil
    case hv28=>
     refine .cons (.mk (fun _ _ _=>rfl) (fun _ v b H F=>by dsimp only at H ⊢; simp [go_sem,exI,H,F]) zPnt ⟨fkc,fkc,fkc,fkc,fkc,fkc,fkc,fkc,fkc,fkc,fka,fku,fkc,trivial⟩) .nil
    intro yw17 v7 hg h17 hV17
    simp only [FW,putFrom,Act.put,lqA,lqB,lqC,wvals,kW,lqD,lqE,Kw.c,pv,Kw.a,Kw.u]
    obtain ⟨⟨N17_10,V17_10⟩, -⟩:(wr.heap.size≤(yw17 10 0).2∧Vr v7 (yw17 10 0).2 (pnt 0 0 false))∧True:=hV17
    clear h17
    replace gU:=gU.trans hg
    have g17:=hg
    clear hg
    go_upto_region 18 with fail
    refine wp_v false [.c (pv ((yw2 7 0).2) 0),.c (.slice (some ⟨b,o,none⟩) L c),.c (.int .i64 (m:Int)),.c (pv b (o+m)),.c (.int .i64 a),.c (.tuple #[.agg (pnt 0 0 false),.int .i64 1603]),.c (.tuple #[.agg (pnt 0 0 false),.int .i64 1603]),.c (.agg (pnt 0 0 false)),.c (.int .i64 1603),.a,.u,.c (.int .i64 1603)] [3,4,5] [⟨9,10,27,pnt 0 0 false,fun _=>pnt 0 0 false⟩] ?hs29 ?hv29 ?hf29
    case hs29=>
     exact .cons (.s (.indexAddr 28 (.const (.slice (some ⟨b,o,none⟩) L c)) (.const (.int .i64 (m:Int)))) rfl fun vv hg=>by simp [go_sem,exI,i0,i1])<|.cons (.s (.load 3 (.const (.pointer (some ⟨b,o+m,none⟩)))) rfl fun vv hg=>by simp [go_sem,exI,(ec (gU.trans hg))])<|.cons (.k _ fun yy vv hg hh=>RtW.of_c (Rt.c (pickE (T2_7.gr (gU.trans hg)) (Value.pointer none) hy))) .nil
    case hv29=>
     refine .cons (.mk (fun _ _ _=>rfl) (fun _ v b H F=>by dsimp only at H ⊢; simp [go_sem,exI,H,F]) zPnt ⟨fkc,fkc,fkc,fkc,fkc,fkc,fkc,fkc,fkc,fka,fku,fkc,trivial⟩) .nil
    intro yw18 v8 hg h18 hV18
    simp only [FW,putFrom,Act.put,lqA,lqB,lqC,wvals,kW,lqD,lqE,Kw.c,pv,Kw.a,Kw.u]
    obtain ⟨⟨N18_9,V18_9⟩, -⟩:(v7.heap.size≤(yw18 9 0).2∧Vr v8 (yw18 9 0).2 (pnt 0 0 false))∧True:=hV18
    clear h18
    replace g17:=g17.trans hg
    replace gU:=gU.trans hg
    have g18:=hg
    clear hg
    go_upto_region 19 with fail
    refine wp_wS [.c (.slice (some ⟨b,o,none⟩) L c),.c (.int .i64 (m:Int)),.c (pv b (o+m)),.c (.int .i64 a),.c (.bool true),.c (.bool true),.u,.u,.u,.u,.u,.u,.c (.bool true)] [2,3,4] ?hs30 ?hf30
    case hs30=>
     exact .cons (.s (.indexAddr 28 (.const (.slice (some ⟨b,o,none⟩) L c)) (.const (.int .i64 (m:Int)))) rfl fun vv hg=>by simp [go_sem,exI,i0,i1])<|.cons (.s (.load 3 (.const (.pointer (some ⟨b,o+m,none⟩)))) rfl fun vv hg=>by simp [go_sem,exI,(ec (gU.trans hg))])<|.cons (.s (.binOp .lss 3 (.const (.int .i64 a)) (.const (.int .i64 0)) 3) rfl fun vv hg=>by simp [go_sem,exI,y1]) .nil
    intro yw19 v9 hg h19
    simp only [FW,putFrom,Act.put,lqA,lqB,lqC,wvals,kW,lqD,lqE,Kw.c,pv,Kw.u]
    clear h19
    replace g17:=g17.trans hg
    replace g18:=g18.trans hg
    replace gU:=gU.trans hg
    have g19:=hg
    clear hg
    go_upto_region 20 with fail
    refine wp_wS [.c (.int .i64 1603),.c (.int .i64 1603),.c (.bool false),.c (.bool false),.c (.int .i64 1603),.c (.int .i64 1603),.c (.bool false),.c (.bool false),.c (.bool false),.c (.agg (pnt 0 0 false)),.c (.agg (pnt 0 0 false)),.c (.bool false),.c (.bool false)] [1,5,9,11] ?hs31 ?hf31
    case hs31=>
     exact .cons (.k _ fun yy vv hg hh=>RtW.of_c (Rt.same (num_any _ _)))<|.cons (.k _ fun yy vv hg hh=>RtW.of_c (Rt.same (num_any _ _)))<|.cons (.g 27 0 (V17_10.gr g18) rfl)<|.cons (.s (.binOp .neq 27 (.const (.agg (pnt 0 0 false))) (.const (.agg (pnt 0 0 false))) 27) rfl fun vv hg=>by simp [go_sem,exI,nePn,eqN_self]) .nil
    intro yw20 v10 hg h20
    simp only [FW,putFrom,Act.put,lqA,lqB,lqC,wvals,kW,lqD,lqE,Kw.c]
    clear h20
    replace g17:=g17.trans hg
    replace g18:=g18.trans hg
    replace g19:=g19.trans hg
    replace gU:=gU.trans hg
    clear hg
    replace TW:=TW.gr g17
    go_wp2_with fail
    go_roundw
    case rel=>exact ⟨m+1,xs,v,by go_num,fun _=>by omega,fun _=>by omega,TW⟩
    case measure=>simp [intOf]; omega
   by_cases a2:x≤a
   ·skip
    have y1:¬ a<0:=by omega
    have y2:x≤a:=by omega
    have hy:a<0∨(n:Int)≤a:=by omega
    go_upto_region 17 with fail
    refine wp_v false [.c (pv ((yw2 7 0).2) 0),.c (pv (v6.heap.size) 0),.c (.slice (some ⟨b,o,none⟩) L c),.c (.int .i64 (m:Int)),.c (pv b (o+m)),.c (.int .i64 a),.c (.tuple #[.agg (pnt 0 0 false),.int .i64 1603]),.c (.tuple #[.agg (pnt 0 0 false),.int .i64 1603]),.c (.agg (pnt 0 0 false)),.c (.int .i64 1603),.a,.u,.c (.int .i64 1603)] [4,5,6] [⟨10,11,27,pnt 0 0 false,fun _=>pnt 0 0 false⟩] ?hs32 ?hv32 ?hf32
    case hs32=>
     exact .cons (.s (.indexAddr 28 (.const (.slice (some ⟨b,o,none⟩) L c)) (.const (.int .i64 (m:Int)))) rfl fun vv hg=>by simp [go_sem,exI,i0,i1])<|.cons (.s (.load 3 (.const (.pointer (some ⟨b,o+m,none⟩)))) rfl fun vv hg=>by simp [go_sem,exI,(ec (gU.trans hg))])<|.cons (.k _ fun yy vv hg hh=>RtW.of_c (Rt.c (pickE (T2_7.gr (gU.trans hg)) (.pointer (some ⟨v6.heap.size,0,none⟩)) hy))) .nil
    case hv32=>
     refine .cons (.mk (fun _ _ _=>rfl) (fun _ v b H F=>by dsimp only at H ⊢; simp [go_sem,exI,H,F]) zPnt ⟨fkc,fkc,fkc,fkc,fkc,fkc,fkc,fkc,fkc,fkc,fka,fku,fkc,trivial⟩) .nil
    intro yw17 v7 hg h17 hV17
    simp only [FW,putFrom,Act.put,lqA,lqB,lqC,wvals,kW,lqD,lqE,Kw.c,pv,Kw.a,Kw.u]
    obtain ⟨⟨N17_10,V17_10⟩, -⟩:(wr.heap.size≤(yw17 10 0).2∧Vr v7 (yw17 10 0).2 (pnt 0 0 false))∧True:=hV17
    clear h17
    replace gU:=gU.trans hg
    have g17:=hg
    clear hg
    go_upto_region 18 with fail
    refine wp_v false [.c (pv ((yw2 7 0).2) 0),.c (.slice (some ⟨b,o,none⟩) L c),.c (.int .i64 (m:Int)),.c (pv b (o+m)),.c (.int .i64 a),.c (.tuple #[.agg (pnt 0 0 false),.int .i64 1603]),.c (.tuple #[.agg (pnt 0 0 false),.int .i64 1603]),.c (.agg (pnt 0 0 false)),.c (.int .i64 1603),.a,.u,.c (.int .i64 1603)] [3,4,5] [⟨9,10,27,pnt 0 0 false,fun _=>pnt 0 0 false⟩] ?hs33 ?hv33 ?hf33
    case hs33=>
     exact .cons (.s (.indexAddr 28 (.const (.slice (some ⟨b,o,none⟩) L c)) (.const (.int .i64 (m:Int)))) rfl fun vv hg=>by simp [go_sem,exI,i0,i1])<|.cons (.s (.load 3 (.const (.pointer (some ⟨b,o+m,none⟩)))) rfl fun vv hg=>by simp [go_sem,exI,(ec (gU.trans hg))])<|.cons (.k _ fun yy vv hg hh=>RtW.of_c (Rt.c (pickE (T2_7.gr (gU.trans hg)) (Value.pointer none) hy))) .nil
    case hv33=>
     refine .cons (.mk (fun _ _ _=>rfl) (fun _ v b H F=>by dsimp only at H ⊢; simp [go_sem,exI,H,F]) zPnt ⟨fkc,fkc,fkc,fkc,fkc,fkc,fkc,fkc,fkc,fka,fku,fkc,trivial⟩) .nil
    intro yw18 v8 hg h18 hV18
    simp only [FW,putFrom,Act.put,lqA,lqB,lqC,wvals,kW,lqD,lqE,Kw.c,pv,Kw.a,Kw.u]
    obtain ⟨⟨N18_9,V18_9⟩, -⟩:(v7.heap.size≤(yw18 9 0).2∧Vr v8 (yw18 9 0).2 (pnt 0 0 false))∧True:=hV18
    clear h18
    replace g17:=g17.trans hg
    replace gU:=gU.trans hg
    have g18:=hg
    clear hg
    go_upto_region 19 with fail
    refine wp_wS [.c (.slice (some ⟨b,o,none⟩) L c),.c (.int .i64 (m:Int)),.c (pv b (o+m)),.c (.int .i64 a),.c (.bool false),.c (.bool false),.c (.slice (some ⟨b,o,none⟩) L c),.c (.int .i64 (m:Int)),.c (pv b (o+m)),.c (.int .i64 a),.c (.int .i64 x),.c (.bool true),.c (.bool true)] [2,3,4,8,9,11] ?hs34 ?hf34
    case hs34=>
     exact .cons (.s (.indexAddr 28 (.const (.slice (some ⟨b,o,none⟩) L c)) (.const (.int .i64 (m:Int)))) rfl fun vv hg=>by simp [go_sem,exI,i0,i1])<|.cons (.s (.load 3 (.const (.pointer (some ⟨b,o+m,none⟩)))) rfl fun vv hg=>by simp [go_sem,exI,(ec (gU.trans hg))])<|.cons (.s (.binOp .lss 3 (.const (.int .i64 a)) (.const (.int .i64 0)) 3) rfl fun vv hg=>by simp [go_sem,exI,y1])<|.cons (.s (.indexAddr 28 (.const (.slice (some ⟨b,o,none⟩) L c)) (.const (.int .i64 (m:Int)))) rfl fun vv hg=>by simp [go_sem,exI,i0,i1])<|.cons (.s (.load 3 (.const (.pointer (some ⟨b,o+m,none⟩)))) rfl fun vv hg=>by simp [go_sem,exI,(ec (gU.trans hg))])<|.cons (.s (.binOp .geq 3 (.const (.int .i64 a)) (.const (.int .i64 x)) 3) rfl fun vv hg=>by simp [go_sem,exI,y2]) .nil
    intro yw19 v9 hg h19
    simp only [FW,putFrom,Act.put,lqA,lqB,lqC,wvals,kW,lqD,lqE,Kw.c,pv]
    clear h19
    replace g17:=g17.trans hg
    replace g18:=g18.trans hg
    replace gU:=gU.trans hg
    have g19:=hg
    clear hg
    go_upto_region 20 with fail
    refine wp_wS [.c (.int .i64 1603),.c (.int .i64 1603),.c (.bool false),.c (.bool false),.c (.int .i64 1603),.c (.int .i64 1603),.c (.bool false),.c (.bool false),.c (.bool false),.c (.agg (pnt 0 0 false)),.c (.agg (pnt 0 0 false)),.c (.bool false),.c (.bool false)] [1,5,9,11] ?hs35 ?hf35
    case hs35=>
     exact .cons (.k _ fun yy vv hg hh=>RtW.of_c (Rt.same (num_any _ _)))<|.cons (.k _ fun yy vv hg hh=>RtW.of_c (Rt.same (num_any _ _)))<|.cons (.g 27 0 (V17_10.gr g18) rfl)<|.cons (.s (.binOp .neq 27 (.const (.agg (pnt 0 0 false))) (.const (.agg (pnt 0 0 false))) 27) rfl fun vv hg=>by simp [go_sem,exI,nePn,eqN_self]) .nil
    intro yw20 v10 hg h20
    simp only [FW,putFrom,Act.put,lqA,lqB,lqC,wvals,kW,lqD,lqE,Kw.c]
    clear h20
    replace g17:=g17.trans hg
    replace g18:=g18.trans hg
    replace g19:=g19.trans hg
    replace gU:=gU.trans hg
    clear hg
    replace TW:=TW.gr g17
    go_wp2_with fail
    go_roundw
    case rel=>exact ⟨m+1,xs,v,by go_num,fun _=>by omega,fun _=>by omega,TW⟩
    case measure=>simp [intOf]; omega
   ·skip
    obtain ⟨i,hy⟩:∃ i:Nat,(i:Int)=a:=⟨a.toNat,by omega⟩
    have hi:i<n:=by omega
    have li:i<16:=by omega
    have y1:¬ a<0:=by omega
    have y2:¬ x≤a:=by omega
    obtain ⟨Z,hZ⟩:∃ Z,mlQ k i P=Z:=⟨_,rfl⟩
    have ew:=ec gU
    go_upto_region 18 with (go_at_call 16; refine (pickR h1 h2 oP T2_7 gU (Nat.le_refl _) TW.tr hxl hn.2 hi hy hZ).mono ?_; rintro e w17 ⟨rfl,z17,hR,gU17⟩)
    refine gen_w (fun v=>Tw v6 v (v6.heap.size) z17 u15 (xs++ixs n) xs∧Vr v w17.heap.size (pnt Z.1 Z.2.1 Z.2.2)) ⟨(TW.pick hR gU17).gr ((Gr.refl _).alloc _),Vr.new _ _ _⟩ ?_
    clear gU TW hR gU17 ew
    rintro v17 ⟨TW,V17⟩
    have gU:=TW.g
    go_upto_region 18 with fail
    refine wp_v false [.c (pv ((yw2 7 0).2) 0),.c (.slice (some ⟨b,o,none⟩) L c),.c (.int .i64 (m:Int)),.c (pv b (o+m)),.c (.int .i64 a),.c (.tuple #[.agg (pnt Z.1 Z.2.1 Z.2.2),.int .i64 0]),.c (.tuple #[.agg (pnt Z.1 Z.2.1 Z.2.2),.int .i64 0]),.c (.agg (pnt Z.1 Z.2.1 Z.2.2)),.c (.int .i64 0),.a,.u,.c (.int .i64 0)] [3,4,5] [⟨9,10,27,pnt 0 0 false,fun _=>pnt Z.1 Z.2.1 Z.2.2⟩] ?hs36 ?hv36 ?hf36
    case hs36=>
     exact .cons (.s (.indexAddr 28 (.const (.slice (some ⟨b,o,none⟩) L c)) (.const (.int .i64 (m:Int)))) rfl fun vv hg=>by simp [go_sem,exI,i0,i1])<|.cons (.s (.load 3 (.const (.pointer (some ⟨b,o+m,none⟩)))) rfl fun vv hg=>by simp [go_sem,exI,(ec (gU.trans hg))])<|.cons (.k _ fun yy vv hg hh=>RtW.of_c (Rt.c (pickM h1 h2 oP (T2_7.gr (gU.trans hg)) hn.2 hi hy hZ))) .nil
    case hv36=>
     refine .cons (.mk (fun _ _ _=>rfl) (fun _ v b H F=>by dsimp only at H ⊢; simp [go_sem,exI,H,F]) zPnt ⟨fkc,fkc,fkc,fkc,fkc,fkc,fkc,fkc,fkc,fka,fku,fkc,trivial⟩) .nil
    intro yw18 v7 hg h18 hV18
    simp only [FW,putFrom,Act.put,lqA,lqB,lqC,wvals,kW,lqD,lqE,Kw.c,pv,Kw.a,Kw.u]
    obtain ⟨⟨N18_9,V18_9⟩, -⟩:(v17.heap.size≤(yw18 9 0).2∧Vr v7 (yw18 9 0).2 (pnt Z.1 Z.2.1 Z.2.2))∧True:=hV18
    clear h18
    replace gU:=gU.trans hg
    have g18:=hg
    clear hg
    go_upto_region 19 with fail
    refine wp_wS [.c (.slice (some ⟨b,o,none⟩) L c),.c (.int .i64 (m:Int)),.c (pv b (o+m)),.c (.int .i64 a),.c (.bool false),.c (.bool false),.c (.slice (some ⟨b,o,none⟩) L c),.c (.int .i64 (m:Int)),.c (pv b (o+m)),.c (.int .i64 a),.c (.int .i64 x),.c (.bool false),.c (.bool false)] [2,3,4,8,9,11] ?hs37 ?hf37
    case hs37=>
     exact .cons (.s (.indexAddr 28 (.const (.slice (some ⟨b,o,none⟩) L c)) (.const (.int .i64 (m:Int)))) rfl fun vv hg=>by simp [go_sem,exI,i0,i1])<|.cons (.s (.load 3 (.const (.pointer (some ⟨b,o+m,none⟩)))) rfl fun vv hg=>by simp [go_sem,exI,(ec (gU.trans hg))])<|.cons (.s (.binOp .lss 3 (.const (.int .i64 a)) (.const (.int .i64 0)) 3) rfl fun vv hg=>by simp [go_sem,exI,y1])<|.cons (.s (.indexAddr 28 (.const (.slice (some ⟨b,o,none⟩) L c)) (.const (.int .i64 (m:Int)))) rfl fun vv hg=>by simp [go_sem,exI,i0,i1])<|.cons (.s (.load 3 (.const (.pointer (some ⟨b,o+m,none⟩)))) rfl fun vv hg=>by simp [go_sem,exI,(ec (gU.trans hg))])<|.cons (.s (.binOp .geq 3 (.const (.int .i64 a)) (.const (.int .i64 x)) 3) rfl fun vv hg=>by simp [go_sem,exI,y2]) .nil
    intro yw19 v8 hg h19
    simp only [FW,putFrom,Act.put,lqA,lqB,lqC,wvals,kW,lqD,lqE,Kw.c,pv]
    clear h19
    replace g18:=g18.trans hg
    replace gU:=gU.trans hg
    have g19:=hg
    clear hg
    go_upto_region 22 with fail
    refine wp_v true [.c (.agg (crA (k:Int) (nN k) qc)),.c (.slice (some ⟨b,o,none⟩) L c),.c (.int .i64 (m:Int)),.c (pv b (o+m)),.c (.int .i64 a),.n (i),.c (.agg (ptA (yw3 1 0).1 (P.1) (yw3 1 0).2 (yw3 1 1).1 (P.2.1) (yw3 1 1).2 P.2.2)),.pt (Z.1) (Z.2.1) Z.2.2,.c (.agg (pnt Z.1 Z.2.1 Z.2.2)),.a,.u] [0,3,4,5,6,7,8] [⟨9,10,27,pnt 0 0 false,fun _=>pnt Z.1 Z.2.1 Z.2.2⟩] ?hs38 ?hv38 ?hf38
    case hs38=>
     exact .cons (.g 32 0 (c7.gr gU) rfl)<|.cons (.s (.indexAddr 28 (.const (.slice (some ⟨b,o,none⟩) L c)) (.const (.int .i64 (m:Int)))) rfl fun vv hg=>by simp [go_sem,exI,i0,i1])<|.cons (.s (.load 3 (.const (.pointer (some ⟨b,o+m,none⟩)))) rfl fun vv hg=>by simp [go_sem,exI,(ec (gU.trans hg))])<|.cons (.k _ fun yy vv hg hh=>RtW.of_n (rsmI li hy _))<|.cons (.g 40 0 (V3_2.gr gU) rfl)<|.cons (.k (fun yy => #[.agg (crA (k:Int) (nN k) qc),.slice (yy 5 0).1 (dl (i)) (yy 5 0).2,.agg (ptA (yw3 1 0).1 (P.1) (yw3 1 0).2 (yw3 1 1).1 (P.2.1) (yw3 1 1).2 P.2.2)]) fun yy vv hg hh=>RtW.of_pt (hZ ▸ rtimesQ k h1 h2 qc oP (dl_16 li) (fun j=>(HQ j).gr (gU.trans hg)) (hh 5 rfl) (S3_1.gr (gU.trans hg)) (T3_1.gr (gU.trans hg))))<|.cons (.k (fun yy => #[.agg (ptA (yy 7 0).1 (Z.1) (yy 7 0).2 (yy 7 1).1 (Z.2.1) (yy 7 1).2 Z.2.2)]) fun yy vv hg hh=>RtW.of_c (Rt.c (rout_any _ _ _ _ _ _ _ _ (hh 7 rfl).1 (hh 7 rfl).2))) .nil
    case hv38=>
     refine .cons (.mk (fun _ _ _=>rfl) (fun _ v b H F=>by dsimp only at H ⊢; simp [go_sem,exI,H,F]) zPnt ⟨fkc,fkc,fkc,fkc,fkc,fkn bPnt,fkc,fkp bPnt,fkc,fka,fku,trivial⟩) .nil
    intro yw22 v9 hg h22 hV22
    simp only [FW,putFrom,Act.put,lqA,lqB,lqC,wvals,kW,lqD,lqE,Kw.c,pv,Kw.a,Kw.n,Kw.pt,Kw.u]
    obtain ⟨⟨N22_9,V22_9⟩, -⟩:(v8.heap.size≤(yw22 9 0).2∧Vr v9 (yw22 9 0).2 (pnt Z.1 Z.2.1 Z.2.2))∧True:=hV22
    clear h22
    replace g18:=g18.trans hg
    replace g19:=g19.trans hg
    replace gU:=gU.trans hg
    clear hg
    go_upto_region 23 with fail
    refine wp_wS [.c (.int .i64 0),.c (.int .i64 0),.c (.bool false),.c (.bool false),.c (.int .i64 0),.c (.int .i64 0),.c (.bool false),.c (.bool false),.c (.bool false),.c (.agg (pnt Z.1 Z.2.1 Z.2.2)),.c (.agg (pnt Z.1 Z.2.1 Z.2.2)),.c (.bool false),.c (.bool false),.c (.bool false),.c (.agg (pnt Z.1 Z.2.1 Z.2.2)),.c (.agg (pnt Z.1 Z.2.1 Z.2.2)),.c (.bool false),.c (.bool false)] [1,5,9,10,11,14,15,16] ?hs39 ?hf39
    case hs39=>
     exact .cons (.k _ fun yy vv hg hh=>RtW.of_c (Rt.same (num_any _ _)))<|.cons (.k _ fun yy vv hg hh=>RtW.of_c (Rt.same (num_any _ _)))<|.cons (.g 27 0 (V17.gr g18) rfl)<|.cons (.g 27 0 V22_9 rfl)<|.cons (.s (.binOp .neq 27 (.const (.agg (pnt Z.1 Z.2.1 Z.2.2))) (.const (.agg (pnt Z.1 Z.2.1 Z.2.2))) 27) rfl fun vv hg=>by simp [go_sem,exI,nePn,eqN_self])<|.cons (.g 27 0 (V18_9.gr g19) rfl)<|.cons (.g 27 0 V22_9 rfl)<|.cons (.s (.binOp .neq 27 (.const (.agg (pnt Z.1 Z.2.1 Z.2.2))) (.const (.agg (pnt Z.1 Z.2.1 Z.2.2))) 27) rfl fun vv hg=>by simp [go_sem,exI,nePn,eqN_self]) .nil
    intro yw23 v10 hg h23
    simp only [FW,putFrom,Act.put,lqA,lqB,lqC,wvals,kW,lqD,lqE,Kw.c]
    clear h23
    replace g18:=g18.trans hg
    replace g19:=g19.trans hg
    replace gU:=gU.trans hg
    have g23:=hg
    clear hg
    replace TW:=TW.gr g18
    clear gU g18 g19 g23
    simp only [Nat.zero_add,Nat.reduceAdd]
    go_wp2_with fail
    go_loopw [15,22] (fun vw2 kj wr2=>∃ j:Nat,kj=.int .i64 (j:Int)∧Hid (Unit→j≤n)∧Hid (Tw v6 wr2 (v6.heap.size) z17 vw2 (xs++ixs n) (xs++ixs j))) (fun _ kj _=>16-(intOf kj).toNat)
    case atStart=>
     refine ⟨0,rfl,fun _=>Nat.zero_le _,?_⟩
     rw [show ixs 0=[] from rfl,List.append_nil]
     exact TW
    case round=>
     clear TW
     obtain ⟨j,rfl,HJ,HT⟩:=hrel
     have TW:=HT.out
     have j0:(0:Int)≤(j:Int):=by omega
     by_cases hj:j<n
     ·have j1:(j:Int)<x:=by omega
      have hyl:(xs++ixs j).length≤900000:=by rw [List.length_append,ixs_length]; omega
      obtain ⟨N,hN⟩:∃ N,(xs++ixs j).length=N:=⟨_,rfl⟩
      have hr:=TW.row
      rw [hN] at hr hyl
      go_wp2_with (at_builtin; refine wpList_append_lies _ rfl (.tmp 183) (.tmp 186) 48 rfl (v6.heap.size+1) 55 i00 _ 2 16 Tryz.underlying48 hi0 hz0 hz1 hz2 rfl (by omega) _ N (evc (xs++ixs j)) rfl (hr.alloc _) ⟨wr.heap.size,0,none⟩ 1 1 [.int .i64 2,.int .i64 (j:Int)] rfl rfl (World.news_of_block (cs := #[.int .i64 2,.int .i64 (j:Int)]) (t:=55) (fr:=(0,0)) (heap_alloc_new wr _)) (by simp [Value.oneCell']) (by omega) (by unfold maxLen; omega) (by omega) (by have:=TW.tr.lt; simp; omega) _ rfl ?_; intro g cap w2 hown hgrow hat hlt2)
      go_roundw
      case rel=>
       refine ⟨j+1,by go_num,fun _=>hj,?_⟩
       rw [ixs_succ,← List.append_assoc]
       exact TW.push hN hgrow hown hat
      case measure=>simp [intOf]; omega
     ·have j1:¬ (j:Int)<x:=by omega
      have hjn:j=n:=by have:=HJ.out (); omega
      subst hjn
      go_wp2_with fail
      go_roundw
      case rel=>exact ⟨m+1,xs++ixs j,z17,by go_num,fun _=>by omega,fun _=>by rw [List.length_append,ixs_length]; omega,TW⟩
      case measure=>simp [intOf]; omega
  ·obtain ⟨N,hN⟩:∃ N,xs.length=N:=⟨_,rfl⟩
   have hb:N≤1000000:=by omega
   have hr:=TW.row
   have EW:=Ev.of_owns hr
   obtain ⟨pw,cw,rfl, -⟩:=owns_parts hr
   rw [hN]
   replace EW:Ev wr pw xs:=EW
   clear hr HT HI
   have gU:=TW.g
   by_cases l1:m<L
   ·have i1:(m:Int)<(L:Int):=by omega
    have i2:¬ (m:Int)<12:=by omega
    go_upto_region 29 with fail
    refine wp_wS [.c (pv (v6.heap.size) 0),.ev N (xs),.c (.slice pw N cw),.c (.bool true),.c (.bool true),.c (.bool true),.c (.bool true),.c (.bool true)] [1,3,5] ?hs40 ?hf40
    case hs40=>
     exact .cons (.k _ fun yy vv hg hh =>  ((evT (TW.tr.gr hg) hN hb)))<|.cons (.k (fun yy => #[.slice (yy 1 0).1 N (yy 1 0).2,.slice pw N cw]) fun yy vv hg hh=>RtW.of_c (Rt.c (sameevT (hh 1 rfl) (EW.gr hg) hN hb)))<|.cons (.k _ fun yy vv hg hh=>RtW.of_c (Rt.c (HAW.out _))) .nil
    intro yw29 v7 hg h29
    simp only [FW,putFrom,Act.put,lqA,lqB,lqC,wvals,kW,lqD,lqE,Kw.c,pv,Kw.ev]
    clear h29
    replace gU:=gU.trans hg
    have g29:=hg
    clear hg
    replace G:=G.trans gU
    replace c0:=c0.gr gU
    replace c7:=c7.gr gU
    replace V3_2:=V3_2.gr gU
    replace HQ:=fun k=>(HQ k).gr gU
    replace T2_7:=T2_7.gr gU
    replace S3_1:=S3_1.gr gU
    replace T3_1:=T3_1.gr gU
    replace TW:=TW.gr g29
    clear g29 gU
    go_wp2_with fail
    go_ret
    exact ⟨rfl,G⟩
   ·have i1:¬ (m:Int)<(L:Int):=by omega
    go_upto_region 29 with fail
    refine wp_wS [.c (pv (v6.heap.size) 0),.ev N (xs),.c (.slice pw N cw),.c (.bool true),.c (.bool true),.c (.bool true),.c (.bool true),.c (.bool true)] [1,3,5] ?hs41 ?hf41
    case hs41=>
     exact .cons (.k _ fun yy vv hg hh =>  ((evT (TW.tr.gr hg) hN hb)))<|.cons (.k (fun yy => #[.slice (yy 1 0).1 N (yy 1 0).2,.slice pw N cw]) fun yy vv hg hh=>RtW.of_c (Rt.c (sameevT (hh 1 rfl) (EW.gr hg) hN hb)))<|.cons (.k _ fun yy vv hg hh=>RtW.of_c (Rt.c (HAW.out _))) .nil
    intro yw29 v7 hg h29
    simp only [FW,putFrom,Act.put,lqA,lqB,lqC,wvals,kW,lqD,lqE,Kw.c,pv,Kw.ev]
    clear h29
    replace gU:=gU.trans hg
    have g29:=hg
    clear hg
    replace G:=G.trans gU
    replace c0:=c0.gr gU
    replace c7:=c7.gr gU
    replace V3_2:=V3_2.gr gU
    replace HQ:=fun k=>(HQ k).gr gU
    replace T2_7:=T2_7.gr gU
    replace S3_1:=S3_1.gr gU
    replace T3_1:=T3_1.gr gU
    replace TW:=TW.gr g29
    clear g29 gU
    go_wp2_with fail
    go_ret
    exact ⟨rfl,G⟩
theorem lttab_any (id:Int) (P:Q3) (lP:P.1<M∧P.2.1<M) (x:Int) (q:Option Addr) (L c:Nat) (pk:Nat→Int) (w:World) (hI:Iv w q L pk):Cg 3 #[.int .i64 id,.agg (pnt P.1 P.2.1 P.2.2),.int .i64 x,.slice q L c] w (.bool true):=by
 by_cases h:1≤id∧id≤15
 ·obtain ⟨k,rfl⟩:∃ k:Nat,id=(k:Int):=⟨id.toNat,by omega⟩
  have h1:1≤k:=by omega
  have h2:k≤15:=by omega
  by_cases oP:onB k P.1 P.2.1 P.2.2=true
  ·by_cases x1:x<1
   ·exact lttab_2 h1 h2 lP oP x x1 q L c w
   by_cases x2:16<x
   ·exact lttab_3 h1 h2 lP oP x x1 x2 q L c w
   ·exact lttab_4 h1 h2 lP oP (n:=x.toNat) (by omega) (by omega) q L c pk w hI
  ·exact lttab_1 h1 h2 lP (Bool.eq_false_iff.2 oP) x q L c w
 ·exact lttab_0 id (by omega) lP x q L c w
end
end
end Go.Proofs.YtikilbpfhijocaaGreat