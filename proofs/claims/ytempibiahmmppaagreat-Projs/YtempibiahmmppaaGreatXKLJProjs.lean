import Derived.Test.YtempibiahmmppaaGreatXKJU
import Derived.Test.YtempibiahmmppaaGreatXKCC
namespace Go.Proofs.YtempibiahmmppaaGreat
open Go.RowKit
set_option maxRecDepth 100000
set_option maxHeartbeats 8000000
section
attribute [local go_sem ↓] loadNat_is loadArr_is loadWide_is loadArrW_is storeNat_is storeWide_is
attribute [local go_sem] loadNat loadArr loadWide loadArrW storeNat storeWide idxArr fold9 fold18 nw_size nw_elem pre_self pre_1 pre_2 pre_3 pre_4 pre_5 pre_6 pre_7 pre_8 pre_9 pre_10 pre_11 pre_12 pre_13 pre_14 pre_15 pre_16 pre_17 pre_18 pre_19 pre_20 pre_21 pre_22 pre_23 pre_24 pre_25 pre_26 pre_27 pre_28 pre_29 pre_30 pre_31 pre_32 pre_33 pre_34 pre_35 pre_36 pre_37 pre_38 pre_39 pre_40 gro_size gro_drew gro_drewN drew_gro drewN_gro gro_gro blk_gro frz_gro blk_drew frz_drew blk_drewN frz_drewN blk_alloc_at frz_alloc_at blk_alloc frz_alloc cell_gro frozen_gro cell_alloc_pre frozen_alloc_pre setCell_drewN alloc_drewN setBlk_drew setBlk_drewN setBlk_alloc_at setBlk_alloc setBlk_gro setCell_gro setCell_alloc_pre size_setBlk size_setCell
section
attribute [local go_sem] ppre_1 ppre_2 ppre_3 ppre_4 ppre_5 ppre_6
attribute [local go_sem ↓] bsl_is loadC_is storeC_is loadPt_is storePt_is zvPt_is buildPt_is loadPn_is storePn_is zvPn_is loadCu_is storeCu_is zvCu_is buildCu_is buildPn_is Go.wp_at_zero Go.wp_at_succ
attribute [local go_sem] loadC storeC0 storeCr crA_size loadPt storePt zvPt ptA_size loadPn storePn zvPn pnt_size loadCu storeCu zvCu cu_size buildCu0 buildPnI buildPn2 loadCP loadCA loadCB loadCN loadCG loadCX loadCY cu_P cu_A cu_B cu_N cu_G cu_X cu_Y frz_setBlk blk_setBlk setBlk_setBlk blk_other
attribute [local go_sem ↓] loadPj_is storePj_is zvPj_is buildPj_is
attribute [local go_sem] loadPj storePj zvPj buildPj0 buildPj1 buildPj2 buildPj3 loadJX loadJY loadJZ prj_size prj_X prj_Y prj_Z
theorem ljprojs_0 (id : Int) (h : id < 1 ∨ 15 < id) (S T : T3) (w : World) : Cg 3 #[.int .i64 id, .agg (prj S.1 S.2.1 S.2.2), .agg (prj T.1 T.2.1 T.2.2)] w (.bool true) := by
 have HGR : Hid (∀ w, Cg 10 #[.int .i64 id] w (.tuple #[.agg #[.int .i64 0, .slice none 0 0, .slice none 0 0, .slice none 0 0, .slice none 0 0, .slice none 0 0, .slice none 0 0], .bool false])) := fun w => get_no id h w
 have HAW : Hid (∀ w, Cg 15 #[] w (.bool true)) := fun w => awake15_any w
 go_enter Tryz.func3, Tryz.ntmps3
 go_upto_region 1 with fail
 refine gen_w (fun v => Hid (Gr w v ∧ Vr v (w.heap.size) (prj S.1 S.2.1 S.2.2) ∧ Vr v (w.heap.size + 1) (prj T.1 T.2.1 T.2.2))) ⟨grA, vrA, vrA⟩ ?_
 intro u0 HV
 go_upto_region 2 with (go_at_call 10; refine (HGR.out _).mono ?_; rintro e WB ⟨rfl, GB⟩)
 obtain ⟨e7, he7⟩ : ∃ b, WB.heap.size = b := ⟨_, rfl⟩
 simp only [he7]
 refine gen_w (fun v => Gr w v ∧ Vr v (w.heap.size) (prj S.1 S.2.1 S.2.2) ∧ Vr v (w.heap.size + 1) (prj T.1 T.2.1 T.2.2)) ?_ ?_
 · subst he7
   obtain ⟨G, c0, c1⟩ := HV.out
   have g1 : Gr WB (WB.alloc (.cells (#[.int .i64 0, .slice none 0 0, .slice none 0 0, .slice none 0 0, .slice none 0 0, .slice none 0 0, .slice none 0 0]) 31)) := (Gr.refl _).alloc _
   exact ⟨(G.trans GB).trans g1, (c0.gr GB).gr g1, (c1.gr GB).gr g1⟩
 clear he7 GB HGR HV
 rintro v0 ⟨G, c0, c1⟩
 refine wp_v false [.c (.int .i64 id), .c (.agg (prj S.1 S.2.1 S.2.2)), .c (.tuple #[.agg (pnt 0 0 false), .int .i64 1500]), .c (.tuple #[.agg (pnt 0 0 false), .int .i64 1500]), .c (.agg (pnt 0 0 false)), .c (.int .i64 1500), .a, .u, .c (.int .i64 1500)] [1, 2] [⟨6, 7, 35, pnt 0 0 false, fun _ => pnt 0 0 false⟩] ?hs1 ?hv1 ?hf1
 case hs1 =>
  refine .cons (.g 27 0 c0 rfl) ?_
  refine .cons (.k _ fun yy vv hg hh => RtW.of_c (Rt.c (to_no id h S _))) .nil
 case hv1 =>
  refine .cons (.mk (fun _ _ _ => rfl) (fun _ v b H F => by dsimp only at H ⊢; simp [go_sem, exI, H, F]) zPnt ⟨fkc, fkc, fkc, fkc, fkc, fkc, fka, fku, fkc, trivial⟩) .nil
 intro yw2 v1 hg h2 hV2
 simp only [FW, putFrom, Act.put, lqA, lqB, lqC, wvals, kW, lqD, lqE, Kw.c, Kw.a, Kw.u]
 obtain ⟨⟨N2_6, V2_6⟩, -⟩ : (v0.heap.size ≤ (yw2 6 0).2 ∧ Vr v1 (yw2 6 0).2 (pnt 0 0 false)) ∧ True := hV2
 clear h2
 have g2 := hg
 clear hg
 go_upto_region 3 with fail
 refine wp_v false [.c (.int .i64 id), .c (.agg (prj S.1 S.2.1 S.2.2)), .c (.agg (prj T.1 T.2.1 T.2.2)), .c (.tuple #[.agg (prj 0 0 0), .int .i64 1500]), .c (.tuple #[.agg (prj 0 0 0), .int .i64 1500]), .c (.agg (prj 0 0 0)), .c (.int .i64 1500), .a, .u, .c (.int .i64 1500)] [1, 2, 3] [⟨7, 8, 27, prj 0 0 0, fun _ => prj 0 0 0⟩] ?hs2 ?hv2 ?hf2
 case hs2 =>
  refine .cons (.g 27 0 (c0.gr g2) rfl) ?_
  refine .cons (.g 27 0 (c1.gr g2) rfl) ?_
  refine .cons (.k _ fun yy vv hg hh => RtW.of_c (Rt.c (jadd_no id h S T _))) .nil
 case hv2 =>
  refine .cons (.mk (fun _ _ _ => rfl) (fun _ v b H F => by dsimp only at H ⊢; simp [go_sem, exI, H, F]) zPj ⟨fkc, fkc, fkc, fkc, fkc, fkc, fkc, fka, fku, fkc, trivial⟩) .nil
 intro yw3 v2 hg h3 hV3
 simp only [FW, putFrom, Act.put, lqA, lqB, lqC, wvals, kW, lqD, lqE, Kw.c, Kw.a, Kw.u]
 obtain ⟨⟨N3_7, V3_7⟩, -⟩ : (v1.heap.size ≤ (yw3 7 0).2 ∧ Vr v2 (yw3 7 0).2 (prj 0 0 0)) ∧ True := hV3
 clear h3
 replace g2 := g2.trans hg
 have g3 := hg
 clear hg
 go_upto_region 4 with fail
 refine wp_v false [.c (.int .i64 id), .c (.agg (prj S.1 S.2.1 S.2.2)), .c (.tuple #[.agg (prj 0 0 0), .int .i64 1500]), .c (.tuple #[.agg (prj 0 0 0), .int .i64 1500]), .c (.agg (prj 0 0 0)), .c (.int .i64 1500), .a, .u, .c (.int .i64 1500)] [1, 2] [⟨6, 7, 27, prj 0 0 0, fun _ => prj 0 0 0⟩] ?hs3 ?hv3 ?hf3
 case hs3 =>
  refine .cons (.g 27 0 (c0.gr g2) rfl) ?_
  refine .cons (.k _ fun yy vv hg hh => RtW.of_c (Rt.c (jdbl_no id h S _))) .nil
 case hv3 =>
  refine .cons (.mk (fun _ _ _ => rfl) (fun _ v b H F => by dsimp only at H ⊢; simp [go_sem, exI, H, F]) zPj ⟨fkc, fkc, fkc, fkc, fkc, fkc, fka, fku, fkc, trivial⟩) .nil
 intro yw4 v3 hg h4 hV4
 simp only [FW, putFrom, Act.put, lqA, lqB, lqC, wvals, kW, lqD, lqE, Kw.c, Kw.a, Kw.u]
 obtain ⟨⟨N4_6, V4_6⟩, -⟩ : (v2.heap.size ≤ (yw4 6 0).2 ∧ Vr v3 (yw4 6 0).2 (prj 0 0 0)) ∧ True := hV4
 clear h4
 replace g2 := g2.trans hg
 replace g3 := g3.trans hg
 have g4 := hg
 clear hg
 go_upto_region 5 with fail
 refine wp_wS [.c (.bool false), .c (.bool true)] [] ?hs4 ?hf4
 case hs4 => exact .nil
 intro yw5 v4 hg h5
 simp only [FW, putFrom, Act.put, lqA, lqB, lqC, wvals, kW, lqD, lqE, Kw.c]
 clear h5
 replace g2 := g2.trans hg
 replace g3 := g3.trans hg
 replace g4 := g4.trans hg
 have g5 := hg
 clear hg
 go_upto_region 6 with fail
 refine wp_wS [.c (.int .i64 1500), .c (.int .i64 1500), .c (.bool true), .c (.bool true), .c (.int .i64 1500), .c (.int .i64 1500), .c (.bool true), .c (.bool true), .c (.bool true), .c (.int .i64 1500), .c (.int .i64 1500), .c (.bool true), .c (.bool true), .c (.bool true), .c (.agg (prj 0 0 0)), .c (.agg (prj 0 0 0)), .c (.bool true), .c (.bool true), .c (.bool true), .c (.bool true), .c (.bool true), .c (.bool true)] [1, 5, 10, 14, 16, 19] ?hs5 ?hf5
 case hs5 =>
  refine .cons (.k _ fun yy vv hg hh => RtW.of_c (Rt.same (num_any _ _))) ?_
  refine .cons (.k _ fun yy vv hg hh => RtW.of_c (Rt.same (num_any _ _))) ?_
  refine .cons (.k _ fun yy vv hg hh => RtW.of_c (Rt.same (num_any _ _))) ?_
  refine .cons (.g 27 0 (V3_7.gr g4) rfl) ?_
  refine .cons (.s (.binOp .eql 27 (.const (.agg (prj 0 0 0))) (.const (.agg (prj 0 0 0))) 27) rfl fun vv hg => by simp [go_sem, exI, eqPj, eqN_self]) ?_
  refine .cons (.k _ fun yy vv hg hh => RtW.of_c (Rt.c (HAW.out _))) .nil
 intro yw6 v5 hg h6
 simp only [FW, putFrom, Act.put, lqA, lqB, lqC, wvals, kW, lqD, lqE, Kw.c]
 clear h6
 replace g2 := g2.trans hg
 replace g3 := g3.trans hg
 replace g4 := g4.trans hg
 replace g5 := g5.trans hg
 clear hg
 replace G := G.trans g2
 replace c0 := c0.gr g2
 replace c1 := c1.gr g2
 replace V2_6 := V2_6.gr g3
 replace V3_7 := V3_7.gr g4
 replace V4_6 := V4_6.gr g5
 clear g2 g3 g4 g5
 go_wp2_with fail
 go_ret
 exact ⟨rfl, G⟩
theorem ljprojs_1 {k : Nat} (h1 : 1 ≤ k) (h2 : k ≤ 15) {S T : T3} (lS : S.1 < M ∧ S.2.1 < M ∧ S.2.2 < M) (lT : T.1 < M ∧ T.2.1 < M ∧ T.2.2 < M) (nS : ∀ Q, ¬ TrQ k S Q) (w : World) : Cg 3 #[.int .i64 (k : Int), .agg (prj S.1 S.2.1 S.2.2), .agg (prj T.1 T.2.1 T.2.2)] w (.bool true) := by
 have HGR : Hid (∀ w, Calls Tryz.prog 10 #[.int .i64 (k : Int)] w (GetQ k w)) := fun w => getq_yes k h1 h2 w
 have HAW : Hid (∀ w, Cg 15 #[] w (.bool true)) := fun w => awake15_any w
 obtain ⟨xS, yS, fS, HS⟩ := tripF h1 h2 lS nS
 obtain ⟨xT, yT, fT, rT, HT⟩ := tripA h1 h2 lT
 go_enter Tryz.func3, Tryz.ntmps3
 go_upto_region 1 with fail
 refine gen_w (fun v => Hid (Gr w v ∧ Vr v (w.heap.size) (prj S.1 S.2.1 S.2.2) ∧ Vr v (w.heap.size + 1) (prj T.1 T.2.1 T.2.2))) ⟨grA, vrA, vrA⟩ ?_
 intro u0 HV
 go_upto_region 2 with (go_at_call 10; refine (HGR.out _).mono ?_; rintro e WB ⟨qc, rfl, HQ, GB⟩)
 obtain ⟨e7, he7⟩ : ∃ b, WB.heap.size = b := ⟨_, rfl⟩
 simp only [he7]
 refine gen_w (fun v => Gr w v ∧ Vr v (w.heap.size) (prj S.1 S.2.1 S.2.2) ∧ Vr v (w.heap.size + 1) (prj T.1 T.2.1 T.2.2) ∧ Vr v e7 (crA (k : Int) (nN k) qc) ∧ ∀ j, Sl v (qc j).1 (nN k j)) ?_ ?_
 · subst he7
   obtain ⟨G, c0, c1⟩ := HV.out
   have g1 : Gr WB (WB.alloc (.cells (crA (k : Int) (nN k) qc) 31)) := (Gr.refl _).alloc _
   exact ⟨(G.trans GB).trans g1, (c0.gr GB).gr g1, (c1.gr GB).gr g1, Vr.new _ _ _, fun j => (HQ j).gr g1⟩
 clear he7 GB HGR HV HQ
 rintro v0 ⟨G, c0, c1, c7, HQ⟩
 refine wp_v false [.c (.int .i64 (k : Int)), .c (.agg (prj S.1 S.2.1 S.2.2)), .c (.tuple #[.agg (pnt 0 0 false), .int .i64 1501]), .c (.tuple #[.agg (pnt 0 0 false), .int .i64 1501]), .c (.agg (pnt 0 0 false)), .c (.int .i64 1501), .a, .u, .c (.int .i64 1501)] [1, 2] [⟨6, 7, 35, pnt 0 0 false, fun _ => pnt 0 0 false⟩] ?hs6 ?hv6 ?hf6
 case hs6 =>
  refine .cons (.g 27 0 c0 rfl) ?_
  refine .cons (.k _ fun yy vv hg hh => RtW.of_c (Rt.c (to_off h1 h2 lS nS _))) .nil
 case hv6 =>
  refine .cons (.mk (fun _ _ _ => rfl) (fun _ v b H F => by dsimp only at H ⊢; simp [go_sem, exI, H, F]) zPnt ⟨fkc, fkc, fkc, fkc, fkc, fkc, fka, fku, fkc, trivial⟩) .nil
 intro yw2 v1 hg h2 hV2
 simp only [FW, putFrom, Act.put, lqA, lqB, lqC, wvals, kW, lqD, lqE, Kw.c, Kw.a, Kw.u]
 obtain ⟨⟨N2_6, V2_6⟩, -⟩ : (v0.heap.size ≤ (yw2 6 0).2 ∧ Vr v1 (yw2 6 0).2 (pnt 0 0 false)) ∧ True := hV2
 clear h2
 have g2 := hg
 clear hg
 go_upto_region 3 with fail
 refine wp_v false [.c (.int .i64 (k : Int)), .c (.agg (prj S.1 S.2.1 S.2.2)), .c (.agg (prj T.1 T.2.1 T.2.2)), .c (.tuple #[.agg (prj 0 0 0), .int .i64 1501]), .c (.tuple #[.agg (prj 0 0 0), .int .i64 1501]), .c (.agg (prj 0 0 0)), .c (.int .i64 1501), .a, .u, .c (.int .i64 1501)] [1, 2, 3] [⟨7, 8, 27, prj 0 0 0, fun _ => prj 0 0 0⟩] ?hs7 ?hv7 ?hf7
 case hs7 =>
  refine .cons (.g 27 0 (c0.gr g2) rfl) ?_
  refine .cons (.g 27 0 (c1.gr g2) rfl) ?_
  refine .cons (.k _ fun yy vv hg hh => RtW.of_c (Rt.c (jadd_off h1 h2 lS lT (.inl nS) _))) .nil
 case hv7 =>
  refine .cons (.mk (fun _ _ _ => rfl) (fun _ v b H F => by dsimp only at H ⊢; simp [go_sem, exI, H, F]) zPj ⟨fkc, fkc, fkc, fkc, fkc, fkc, fkc, fka, fku, fkc, trivial⟩) .nil
 intro yw3 v2 hg h3 hV3
 simp only [FW, putFrom, Act.put, lqA, lqB, lqC, wvals, kW, lqD, lqE, Kw.c, Kw.a, Kw.u]
 obtain ⟨⟨N3_7, V3_7⟩, -⟩ : (v1.heap.size ≤ (yw3 7 0).2 ∧ Vr v2 (yw3 7 0).2 (prj 0 0 0)) ∧ True := hV3
 clear h3
 replace g2 := g2.trans hg
 have g3 := hg
 clear hg
 go_upto_region 4 with fail
 refine wp_v false [.c (.int .i64 (k : Int)), .c (.agg (prj S.1 S.2.1 S.2.2)), .c (.tuple #[.agg (prj 0 0 0), .int .i64 1501]), .c (.tuple #[.agg (prj 0 0 0), .int .i64 1501]), .c (.agg (prj 0 0 0)), .c (.int .i64 1501), .a, .u, .c (.int .i64 1501)] [1, 2] [⟨6, 7, 27, prj 0 0 0, fun _ => prj 0 0 0⟩] ?hs8 ?hv8 ?hf8
 case hs8 =>
  refine .cons (.g 27 0 (c0.gr g2) rfl) ?_
  refine .cons (.k _ fun yy vv hg hh => RtW.of_c (Rt.c (jdbl_off h1 h2 lS nS _))) .nil
 case hv8 =>
  refine .cons (.mk (fun _ _ _ => rfl) (fun _ v b H F => by dsimp only at H ⊢; simp [go_sem, exI, H, F]) zPj ⟨fkc, fkc, fkc, fkc, fkc, fkc, fka, fku, fkc, trivial⟩) .nil
 intro yw4 v3 hg h4 hV4
 simp only [FW, putFrom, Act.put, lqA, lqB, lqC, wvals, kW, lqD, lqE, Kw.c, Kw.a, Kw.u]
 obtain ⟨⟨N4_6, V4_6⟩, -⟩ : (v2.heap.size ≤ (yw4 6 0).2 ∧ Vr v3 (yw4 6 0).2 (prj 0 0 0)) ∧ True := hV4
 clear h4
 replace g2 := g2.trans hg
 replace g3 := g3.trans hg
 have g4 := hg
 clear hg
 go_upto_region 5 with fail
 refine wp_wS [.c (.bool true), .c (.bool false)] [] ?hs9 ?hf9
 case hs9 => exact .nil
 intro yw5 v4 hg h5
 simp only [FW, putFrom, Act.put, lqA, lqB, lqC, wvals, kW, lqD, lqE, Kw.c]
 clear h5
 replace g2 := g2.trans hg
 replace g3 := g3.trans hg
 replace g4 := g4.trans hg
 have g5 := hg
 clear hg
 go_upto_region 7 with fail
 refine wp_v false [.c (.agg (crA (k : Int) (nN k) qc)), .c (.agg (prj S.1 S.2.1 S.2.2)), .tb (xS) (yS) fS false, .tb (xS) (yS) fS false, .pt (xS) (yS) fS, .c (.bool false), .a, .u, .c (.bool false)] [0, 1, 2, 3, 4, 5] [⟨6, 7, 45, ptA none 0 0 none 0 0 false, fun yy => ptA (yy 4 0).1 (xS) (yy 4 0).2 (yy 4 1).1 (yS) (yy 4 1).2 fS⟩] ?hs10 ?hv10 ?hf10
 case hs10 =>
  refine .cons (.g 31 0 (c7.gr g2) rfl) ?_
  refine .cons (.g 27 0 (c0.gr g2) rfl) ?_
  refine .cons (.k _ fun yy vv hg hh =>  (HS qc _ (fun j => (HQ j).gr (g2.trans hg)))) ?_
  refine .cons (.m 2) ?_
  refine .cons (.m 3) ?_
  refine .cons (.m 3) .nil
 case hv10 =>
  refine .cons (.mk (fun _ _ h => Value.agg.inj (h 4 rfl)) (fun _ v b H F => by dsimp only at H ⊢; simp [go_sem, exI, H, F]) zPt ⟨fkc, fkc, fkt bPt, fkt bPt, fkp bPt, fkc, fka, fku, fkc, trivial⟩) .nil
 intro yw7 v5 hg h7 hV7
 simp only [FW, putFrom, Act.put, lqA, lqB, lqC, wvals, kW, lqD, lqE, Kw.c, Kw.a, Kw.pt, Kw.tb, Kw.u]
 obtain ⟨S7_4, T7_4⟩ : Sl v5 (yw7 4 0).1 (xS) ∧ Sl v5 (yw7 4 1).1 (yS) := h7 4
 obtain ⟨⟨N7_6, V7_6⟩, -⟩ : (v4.heap.size ≤ (yw7 6 0).2 ∧ Vr v5 (yw7 6 0).2 (ptA (yw7 4 0).1 (xS) (yw7 4 0).2 (yw7 4 1).1 (yS) (yw7 4 1).2 fS)) ∧ True := hV7
 clear h7
 replace g2 := g2.trans hg
 replace g3 := g3.trans hg
 replace g4 := g4.trans hg
 replace g5 := g5.trans hg
 clear hg
 go_upto_region 8 with fail
 refine wp_v false [.c (.agg (crA (k : Int) (nN k) qc)), .c (.agg (prj T.1 T.2.1 T.2.2)), .tb (xT) (yT) fT rT, .tb (xT) (yT) fT rT, .pt (xT) (yT) fT, .c (.bool rT), .a, .u, .c (.bool rT)] [0, 1, 2, 3, 4, 5] [⟨6, 7, 45, ptA none 0 0 none 0 0 false, fun yy => ptA (yy 4 0).1 (xT) (yy 4 0).2 (yy 4 1).1 (yT) (yy 4 1).2 fT⟩] ?hs11 ?hv11 ?hf11
 case hs11 =>
  refine .cons (.g 31 0 (c7.gr g2) rfl) ?_
  refine .cons (.g 27 0 (c1.gr g2) rfl) ?_
  refine .cons (.k _ fun yy vv hg hh =>  (HT qc _ (fun j => (HQ j).gr (g2.trans hg)))) ?_
  refine .cons (.m 2) ?_
  refine .cons (.m 3) ?_
  refine .cons (.m 3) .nil
 case hv11 =>
  refine .cons (.mk (fun _ _ h => Value.agg.inj (h 4 rfl)) (fun _ v b H F => by dsimp only at H ⊢; simp [go_sem, exI, H, F]) zPt ⟨fkc, fkc, fkt bPt, fkt bPt, fkp bPt, fkc, fka, fku, fkc, trivial⟩) .nil
 intro yw8 v6 hg h8 hV8
 simp only [FW, putFrom, Act.put, lqA, lqB, lqC, wvals, kW, lqD, lqE, Kw.c, Kw.a, Kw.pt, Kw.tb, Kw.u]
 obtain ⟨S8_4, T8_4⟩ : Sl v6 (yw8 4 0).1 (xT) ∧ Sl v6 (yw8 4 1).1 (yT) := h8 4
 obtain ⟨⟨N8_6, V8_6⟩, -⟩ : (v5.heap.size ≤ (yw8 6 0).2 ∧ Vr v6 (yw8 6 0).2 (ptA (yw8 4 0).1 (xT) (yw8 4 0).2 (yw8 4 1).1 (yT) (yw8 4 1).2 fT)) ∧ True := hV8
 clear h8
 replace g2 := g2.trans hg
 replace g3 := g3.trans hg
 replace g4 := g4.trans hg
 replace g5 := g5.trans hg
 have g8 := hg
 clear hg
 go_upto_region 9 with fail
 refine wp_wS [.c (.bool false), .c (.bool true)] [] ?hs12 ?hf12
 case hs12 => exact .nil
 intro yw9 v7 hg h9
 simp only [FW, putFrom, Act.put, lqA, lqB, lqC, wvals, kW, lqD, lqE, Kw.c]
 clear h9
 replace g2 := g2.trans hg
 replace g3 := g3.trans hg
 replace g4 := g4.trans hg
 replace g5 := g5.trans hg
 replace g8 := g8.trans hg
 have g9 := hg
 clear hg
 go_upto_region 10 with fail
 refine wp_wS [.c (.int .i64 1501), .c (.int .i64 1501), .c (.bool true), .c (.bool true), .c (.int .i64 1501), .c (.int .i64 1501), .c (.bool true), .c (.bool true), .c (.bool true), .c (.int .i64 1501), .c (.int .i64 1501), .c (.bool true), .c (.bool true), .c (.bool true), .c (.agg (pnt 0 0 false)), .c (.agg (pnt 0 0 false)), .c (.bool true), .c (.bool true), .c (.bool true), .c (.agg (prj 0 0 0)), .c (.agg (prj 0 0 0)), .c (.bool true), .c (.bool true), .c (.bool true), .c (.agg (prj 0 0 0)), .c (.agg (prj 0 0 0)), .c (.bool true), .c (.bool true), .c (.bool true), .c (.bool true), .c (.bool true), .c (.bool true)] [1, 5, 10, 14, 16, 19, 21, 24, 26, 29] ?hs13 ?hf13
 case hs13 =>
  refine .cons (.k _ fun yy vv hg hh => RtW.of_c (Rt.same (num_any _ _))) ?_
  refine .cons (.k _ fun yy vv hg hh => RtW.of_c (Rt.same (num_any _ _))) ?_
  refine .cons (.k _ fun yy vv hg hh => RtW.of_c (Rt.same (num_any _ _))) ?_
  refine .cons (.g 35 0 (V2_6.gr g3) rfl) ?_
  refine .cons (.s (.binOp .eql 35 (.const (.agg (pnt 0 0 false))) (.const (.agg (pnt 0 0 false))) 35) rfl fun vv hg => by simp [go_sem, exI, eqPn, eqN_self]) ?_
  refine .cons (.g 27 0 (V3_7.gr g4) rfl) ?_
  refine .cons (.s (.binOp .eql 27 (.const (.agg (prj 0 0 0))) (.const (.agg (prj 0 0 0))) 27) rfl fun vv hg => by simp [go_sem, exI, eqPj, eqN_self]) ?_
  refine .cons (.g 27 0 (V4_6.gr g5) rfl) ?_
  refine .cons (.s (.binOp .eql 27 (.const (.agg (prj 0 0 0))) (.const (.agg (prj 0 0 0))) 27) rfl fun vv hg => by simp [go_sem, exI, eqPj, eqN_self]) ?_
  refine .cons (.k _ fun yy vv hg hh => RtW.of_c (Rt.c (HAW.out _))) .nil
 intro yw10 v8 hg h10
 simp only [FW, putFrom, Act.put, lqA, lqB, lqC, wvals, kW, lqD, lqE, Kw.c]
 clear h10
 replace g2 := g2.trans hg
 replace g3 := g3.trans hg
 replace g4 := g4.trans hg
 replace g5 := g5.trans hg
 replace g8 := g8.trans hg
 replace g9 := g9.trans hg
 clear hg
 replace G := G.trans g2
 replace c0 := c0.gr g2
 replace c1 := c1.gr g2
 replace c7 := c7.gr g2
 replace HQ := fun k => (HQ k).gr g2
 replace V2_6 := V2_6.gr g3
 replace V3_7 := V3_7.gr g4
 replace V4_6 := V4_6.gr g5
 replace V7_6 := V7_6.gr g8
 replace S7_4 := S7_4.gr g8
 replace T7_4 := T7_4.gr g8
 replace V8_6 := V8_6.gr g9
 replace S8_4 := S8_4.gr g9
 replace T8_4 := T8_4.gr g9
 clear g2 g3 g4 g5 g8 g9
 go_wp2_with fail
 go_ret
 exact ⟨rfl, G⟩
theorem ljprojs_2 {k : Nat} (h1 : 1 ≤ k) (h2 : k ≤ 15) {S T : T3} (lS : S.1 < M ∧ S.2.1 < M ∧ S.2.2 < M) (lT : T.1 < M ∧ T.2.1 < M ∧ T.2.2 < M) {P : Q3} (trS : TrQ k S P) (nT : ∀ Q, ¬ TrQ k T Q) (w : World) : Cg 3 #[.int .i64 (k : Int), .agg (prj S.1 S.2.1 S.2.2), .agg (prj T.1 T.2.1 T.2.2)] w (.bool true) := by
 have HGR : Hid (∀ w, Calls Tryz.prog 10 #[.int .i64 (k : Int)] w (GetQ k w)) := fun w => getq_yes k h1 h2 w
 have HAW : Hid (∀ w, Cg 15 #[] w (.bool true)) := fun w => awake15_any w
 obtain ⟨xT, yT, fT, HT⟩ := tripF h1 h2 lT nT
 have oP := trS.on
 obtain ⟨D, hD⟩ : ∃ Z, addT k S S = Z := ⟨_, rfl⟩
 obtain ⟨X2, hX2⟩ : ∃ Z, plQ k P P = Z := ⟨_, rfl⟩
 have trD : TrQ k D X2 := hD ▸ hX2 ▸ addT_tr h1 h2 trS trS
 go_enter Tryz.func3, Tryz.ntmps3
 go_upto_region 1 with fail
 refine gen_w (fun v => Hid (Gr w v ∧ Vr v (w.heap.size) (prj S.1 S.2.1 S.2.2) ∧ Vr v (w.heap.size + 1) (prj T.1 T.2.1 T.2.2))) ⟨grA, vrA, vrA⟩ ?_
 intro u0 HV
 go_upto_region 2 with (go_at_call 10; refine (HGR.out _).mono ?_; rintro e WB ⟨qc, rfl, HQ, GB⟩)
 obtain ⟨e7, he7⟩ : ∃ b, WB.heap.size = b := ⟨_, rfl⟩
 simp only [he7]
 refine gen_w (fun v => Gr w v ∧ Vr v (w.heap.size) (prj S.1 S.2.1 S.2.2) ∧ Vr v (w.heap.size + 1) (prj T.1 T.2.1 T.2.2) ∧ Vr v e7 (crA (k : Int) (nN k) qc) ∧ ∀ j, Sl v (qc j).1 (nN k j)) ?_ ?_
 · subst he7
   obtain ⟨G, c0, c1⟩ := HV.out
   have g1 : Gr WB (WB.alloc (.cells (crA (k : Int) (nN k) qc) 31)) := (Gr.refl _).alloc _
   exact ⟨(G.trans GB).trans g1, (c0.gr GB).gr g1, (c1.gr GB).gr g1, Vr.new _ _ _, fun j => (HQ j).gr g1⟩
 clear he7 GB HGR HV HQ
 rintro v0 ⟨G, c0, c1, c7, HQ⟩
 refine wp_v false [.c (.int .i64 (k : Int)), .c (.agg (prj S.1 S.2.1 S.2.2)), .c (.tuple #[.agg (pnt P.1 P.2.1 P.2.2), .int .i64 0]), .c (.tuple #[.agg (pnt P.1 P.2.1 P.2.2), .int .i64 0]), .c (.agg (pnt P.1 P.2.1 P.2.2)), .c (.int .i64 0), .a, .u, .c (.int .i64 0)] [1, 2] [⟨6, 7, 35, pnt 0 0 false, fun _ => pnt P.1 P.2.1 P.2.2⟩] ?hs14 ?hv14 ?hf14
 case hs14 =>
  refine .cons (.g 27 0 c0 rfl) ?_
  refine .cons (.k _ fun yy vv hg hh => RtW.of_c (Rt.c (toQ h1 h2 trS _))) .nil
 case hv14 =>
  refine .cons (.mk (fun _ _ _ => rfl) (fun _ v b H F => by dsimp only at H ⊢; simp [go_sem, exI, H, F]) zPnt ⟨fkc, fkc, fkc, fkc, fkc, fkc, fka, fku, fkc, trivial⟩) .nil
 intro yw2 v1 hg h2 hV2
 simp only [FW, putFrom, Act.put, lqA, lqB, lqC, wvals, kW, lqD, lqE, Kw.c, Kw.a, Kw.u]
 obtain ⟨⟨N2_6, V2_6⟩, -⟩ : (v0.heap.size ≤ (yw2 6 0).2 ∧ Vr v1 (yw2 6 0).2 (pnt P.1 P.2.1 P.2.2)) ∧ True := hV2
 clear h2
 have g2 := hg
 clear hg
 go_upto_region 3 with fail
 refine wp_v false [.c (.int .i64 (k : Int)), .c (.agg (prj S.1 S.2.1 S.2.2)), .c (.agg (prj T.1 T.2.1 T.2.2)), .c (.tuple #[.agg (prj 0 0 0), .int .i64 1501]), .c (.tuple #[.agg (prj 0 0 0), .int .i64 1501]), .c (.agg (prj 0 0 0)), .c (.int .i64 1501), .a, .u, .c (.int .i64 1501)] [1, 2, 3] [⟨7, 8, 27, prj 0 0 0, fun _ => prj 0 0 0⟩] ?hs15 ?hv15 ?hf15
 case hs15 =>
  refine .cons (.g 27 0 (c0.gr g2) rfl) ?_
  refine .cons (.g 27 0 (c1.gr g2) rfl) ?_
  refine .cons (.k _ fun yy vv hg hh => RtW.of_c (Rt.c (jadd_off h1 h2 lS lT (.inr nT) _))) .nil
 case hv15 =>
  refine .cons (.mk (fun _ _ _ => rfl) (fun _ v b H F => by dsimp only at H ⊢; simp [go_sem, exI, H, F]) zPj ⟨fkc, fkc, fkc, fkc, fkc, fkc, fkc, fka, fku, fkc, trivial⟩) .nil
 intro yw3 v2 hg h3 hV3
 simp only [FW, putFrom, Act.put, lqA, lqB, lqC, wvals, kW, lqD, lqE, Kw.c, Kw.a, Kw.u]
 obtain ⟨⟨N3_7, V3_7⟩, -⟩ : (v1.heap.size ≤ (yw3 7 0).2 ∧ Vr v2 (yw3 7 0).2 (prj 0 0 0)) ∧ True := hV3
 clear h3
 replace g2 := g2.trans hg
 have g3 := hg
 clear hg
 go_upto_region 4 with fail
 refine wp_v false [.c (.int .i64 (k : Int)), .c (.agg (prj S.1 S.2.1 S.2.2)), .c (.tuple #[.agg (prj D.1 D.2.1 D.2.2), .int .i64 0]), .c (.tuple #[.agg (prj D.1 D.2.1 D.2.2), .int .i64 0]), .c (.agg (prj D.1 D.2.1 D.2.2)), .c (.int .i64 0), .a, .u, .c (.int .i64 0)] [1, 2] [⟨6, 7, 27, prj 0 0 0, fun _ => prj D.1 D.2.1 D.2.2⟩] ?hs16 ?hv16 ?hf16
 case hs16 =>
  refine .cons (.g 27 0 (c0.gr g2) rfl) ?_
  refine .cons (.k _ fun yy vv hg hh => RtW.of_c (Rt.c (jdblQ h1 h2 trS hD _))) .nil
 case hv16 =>
  refine .cons (.mk (fun _ _ _ => rfl) (fun _ v b H F => by dsimp only at H ⊢; simp [go_sem, exI, H, F]) zPj ⟨fkc, fkc, fkc, fkc, fkc, fkc, fka, fku, fkc, trivial⟩) .nil
 intro yw4 v3 hg h4 hV4
 simp only [FW, putFrom, Act.put, lqA, lqB, lqC, wvals, kW, lqD, lqE, Kw.c, Kw.a, Kw.u]
 obtain ⟨⟨N4_6, V4_6⟩, -⟩ : (v2.heap.size ≤ (yw4 6 0).2 ∧ Vr v3 (yw4 6 0).2 (prj D.1 D.2.1 D.2.2)) ∧ True := hV4
 clear h4
 replace g2 := g2.trans hg
 replace g3 := g3.trans hg
 have g4 := hg
 clear hg
 go_upto_region 5 with fail
 refine wp_wS [.c (.bool true), .c (.bool false)] [] ?hs17 ?hf17
 case hs17 => exact .nil
 intro yw5 v4 hg h5
 simp only [FW, putFrom, Act.put, lqA, lqB, lqC, wvals, kW, lqD, lqE, Kw.c]
 clear h5
 replace g2 := g2.trans hg
 replace g3 := g3.trans hg
 replace g4 := g4.trans hg
 have g5 := hg
 clear hg
 go_upto_region 7 with fail
 refine wp_v false [.c (.agg (crA (k : Int) (nN k) qc)), .c (.agg (prj S.1 S.2.1 S.2.2)), .tb (P.1) (P.2.1) P.2.2 true, .tb (P.1) (P.2.1) P.2.2 true, .pt (P.1) (P.2.1) P.2.2, .c (.bool true), .a, .u, .c (.bool true)] [0, 1, 2, 3, 4, 5] [⟨6, 7, 45, ptA none 0 0 none 0 0 false, fun yy => ptA (yy 4 0).1 (P.1) (yy 4 0).2 (yy 4 1).1 (P.2.1) (yy 4 1).2 P.2.2⟩] ?hs18 ?hv18 ?hf18
 case hs18 =>
  refine .cons (.g 31 0 (c7.gr g2) rfl) ?_
  refine .cons (.g 27 0 (c0.gr g2) rfl) ?_
  refine .cons (.k _ fun yy vv hg hh =>  (tripT h1 h2 trS qc _ (fun j => (HQ j).gr (g2.trans hg)))) ?_
  refine .cons (.m 2) ?_
  refine .cons (.m 3) ?_
  refine .cons (.m 3) .nil
 case hv18 =>
  refine .cons (.mk (fun _ _ h => Value.agg.inj (h 4 rfl)) (fun _ v b H F => by dsimp only at H ⊢; simp [go_sem, exI, H, F]) zPt ⟨fkc, fkc, fkt bPt, fkt bPt, fkp bPt, fkc, fka, fku, fkc, trivial⟩) .nil
 intro yw7 v5 hg h7 hV7
 simp only [FW, putFrom, Act.put, lqA, lqB, lqC, wvals, kW, lqD, lqE, Kw.c, Kw.a, Kw.pt, Kw.tb, Kw.u]
 obtain ⟨S7_4, T7_4⟩ : Sl v5 (yw7 4 0).1 (P.1) ∧ Sl v5 (yw7 4 1).1 (P.2.1) := h7 4
 obtain ⟨⟨N7_6, V7_6⟩, -⟩ : (v4.heap.size ≤ (yw7 6 0).2 ∧ Vr v5 (yw7 6 0).2 (ptA (yw7 4 0).1 (P.1) (yw7 4 0).2 (yw7 4 1).1 (P.2.1) (yw7 4 1).2 P.2.2)) ∧ True := hV7
 clear h7
 replace g2 := g2.trans hg
 replace g3 := g3.trans hg
 replace g4 := g4.trans hg
 replace g5 := g5.trans hg
 clear hg
 go_upto_region 8 with fail
 refine wp_v false [.c (.agg (crA (k : Int) (nN k) qc)), .c (.agg (prj T.1 T.2.1 T.2.2)), .tb (xT) (yT) fT false, .tb (xT) (yT) fT false, .pt (xT) (yT) fT, .c (.bool false), .a, .u, .c (.bool false)] [0, 1, 2, 3, 4, 5] [⟨6, 7, 45, ptA none 0 0 none 0 0 false, fun yy => ptA (yy 4 0).1 (xT) (yy 4 0).2 (yy 4 1).1 (yT) (yy 4 1).2 fT⟩] ?hs19 ?hv19 ?hf19
 case hs19 =>
  refine .cons (.g 31 0 (c7.gr g2) rfl) ?_
  refine .cons (.g 27 0 (c1.gr g2) rfl) ?_
  refine .cons (.k _ fun yy vv hg hh =>  (HT qc _ (fun j => (HQ j).gr (g2.trans hg)))) ?_
  refine .cons (.m 2) ?_
  refine .cons (.m 3) ?_
  refine .cons (.m 3) .nil
 case hv19 =>
  refine .cons (.mk (fun _ _ h => Value.agg.inj (h 4 rfl)) (fun _ v b H F => by dsimp only at H ⊢; simp [go_sem, exI, H, F]) zPt ⟨fkc, fkc, fkt bPt, fkt bPt, fkp bPt, fkc, fka, fku, fkc, trivial⟩) .nil
 intro yw8 v6 hg h8 hV8
 simp only [FW, putFrom, Act.put, lqA, lqB, lqC, wvals, kW, lqD, lqE, Kw.c, Kw.a, Kw.pt, Kw.tb, Kw.u]
 obtain ⟨S8_4, T8_4⟩ : Sl v6 (yw8 4 0).1 (xT) ∧ Sl v6 (yw8 4 1).1 (yT) := h8 4
 obtain ⟨⟨N8_6, V8_6⟩, -⟩ : (v5.heap.size ≤ (yw8 6 0).2 ∧ Vr v6 (yw8 6 0).2 (ptA (yw8 4 0).1 (xT) (yw8 4 0).2 (yw8 4 1).1 (yT) (yw8 4 1).2 fT)) ∧ True := hV8
 clear h8
 replace g2 := g2.trans hg
 replace g3 := g3.trans hg
 replace g4 := g4.trans hg
 replace g5 := g5.trans hg
 have g8 := hg
 clear hg
 go_upto_region 9 with fail
 refine wp_wS [.c (.bool true), .c (.bool false)] [] ?hs20 ?hf20
 case hs20 => exact .nil
 intro yw9 v7 hg h9
 simp only [FW, putFrom, Act.put, lqA, lqB, lqC, wvals, kW, lqD, lqE, Kw.c]
 clear h9
 replace g2 := g2.trans hg
 replace g3 := g3.trans hg
 replace g4 := g4.trans hg
 replace g5 := g5.trans hg
 replace g8 := g8.trans hg
 have g9 := hg
 clear hg
 go_upto_region 11 with fail
 refine wp_v false [.c (.agg (crA (k : Int) (nN k) qc)), .c (.agg (prj D.1 D.2.1 D.2.2)), .tb (X2.1) (X2.2.1) X2.2.2 true, .tb (X2.1) (X2.2.1) X2.2.2 true, .pt (X2.1) (X2.2.1) X2.2.2, .c (.bool true), .a, .u, .c (.bool true)] [0, 1, 2, 3, 4, 5] [⟨6, 7, 45, ptA none 0 0 none 0 0 false, fun yy => ptA (yy 4 0).1 (X2.1) (yy 4 0).2 (yy 4 1).1 (X2.2.1) (yy 4 1).2 X2.2.2⟩] ?hs21 ?hv21 ?hf21
 case hs21 =>
  refine .cons (.g 31 0 (c7.gr g2) rfl) ?_
  refine .cons (.g 27 0 (V4_6.gr g5) rfl) ?_
  refine .cons (.k _ fun yy vv hg hh =>  (tripT h1 h2 trD qc _ (fun j => (HQ j).gr (g2.trans hg)))) ?_
  refine .cons (.m 2) ?_
  refine .cons (.m 3) ?_
  refine .cons (.m 3) .nil
 case hv21 =>
  refine .cons (.mk (fun _ _ h => Value.agg.inj (h 4 rfl)) (fun _ v b H F => by dsimp only at H ⊢; simp [go_sem, exI, H, F]) zPt ⟨fkc, fkc, fkt bPt, fkt bPt, fkp bPt, fkc, fka, fku, fkc, trivial⟩) .nil
 intro yw11 v8 hg h11 hV11
 simp only [FW, putFrom, Act.put, lqA, lqB, lqC, wvals, kW, lqD, lqE, Kw.c, Kw.a, Kw.pt, Kw.tb, Kw.u]
 obtain ⟨S11_4, T11_4⟩ : Sl v8 (yw11 4 0).1 (X2.1) ∧ Sl v8 (yw11 4 1).1 (X2.2.1) := h11 4
 obtain ⟨⟨N11_6, V11_6⟩, -⟩ : (v7.heap.size ≤ (yw11 6 0).2 ∧ Vr v8 (yw11 6 0).2 (ptA (yw11 4 0).1 (X2.1) (yw11 4 0).2 (yw11 4 1).1 (X2.2.1) (yw11 4 1).2 X2.2.2)) ∧ True := hV11
 clear h11
 replace g2 := g2.trans hg
 replace g3 := g3.trans hg
 replace g4 := g4.trans hg
 replace g5 := g5.trans hg
 replace g8 := g8.trans hg
 replace g9 := g9.trans hg
 clear hg
 go_upto_region 12 with fail
 refine wp_w [.c (.int .i64 0), .c (.int .i64 0), .c (.bool false), .c (.bool false), .c (.agg (pnt P.1 P.2.1 P.2.2)), .c (.agg (ptA (yw7 4 0).1 (P.1) (yw7 4 0).2 (yw7 4 1).1 (P.2.1) (yw7 4 1).2 P.2.2)), .c (.agg (pnt P.1 P.2.1 P.2.2)), .c (.bool false), .c (.bool false), .c (.bool false), .c (.int .i64 0), .c (.int .i64 0), .c (.bool false), .c (.bool false), .c (.bool false), .c (.bool true), .c (.bool false), .c (.bool false), .c (.bool false), .c (.agg (ptA (yw11 4 0).1 (X2.1) (yw11 4 0).2 (yw11 4 1).1 (X2.2.1) (yw11 4 1).2 X2.2.2)), .c (.agg (pnt X2.1 X2.2.1 X2.2.2)), .c (.agg (crA (k : Int) (nN k) qc)), .c (.agg (ptA (yw7 4 0).1 (P.1) (yw7 4 0).2 (yw7 4 1).1 (P.2.1) (yw7 4 1).2 P.2.2)), .c (.agg (ptA (yw7 4 0).1 (P.1) (yw7 4 0).2 (yw7 4 1).1 (P.2.1) (yw7 4 1).2 P.2.2)), .pt (X2.1) (X2.2.1) X2.2.2, .c (.agg (pnt X2.1 X2.2.1 X2.2.2)), .c (.bool false), .c (.bool false)] [1, 4, 5, 6, 7, 11, 19, 20, 21, 22, 23, 24, 25, 26] ?hs22 ?hf22
 case hs22 =>
  refine .cons (.k _ fun yy vv hg hh => RtW.of_c (Rt.same (num_any _ _))) ?_
  refine .cons (.g 35 0 (V2_6.gr g3) rfl) ?_
  refine .cons (.g 45 0 (V7_6.gr g8) rfl) ?_
  refine .cons (.k (fun yy => #[.agg (ptA (yw7 4 0).1 (P.1) (yw7 4 0).2 (yw7 4 1).1 (P.2.1) (yw7 4 1).2 P.2.2)]) fun yy vv hg hh => RtW.of_c (Rt.c (rout_any _ _ _ _ _ _ _ _ (S7_4.gr (g8.trans hg)) (T7_4.gr (g8.trans hg))))) ?_
  refine .cons (.s (.binOp .neq 35 (.const (.agg (pnt P.1 P.2.1 P.2.2))) (.const (.agg (pnt P.1 P.2.1 P.2.2))) 35) rfl fun vv hg => by simp [go_sem, exI, nePn, eqN_self]) ?_
  refine .cons (.k _ fun yy vv hg hh => RtW.of_c (Rt.same (num_any _ _))) ?_
  refine .cons (.g 45 0 V11_6 rfl) ?_
  refine .cons (.k (fun yy => #[.agg (ptA (yw11 4 0).1 (X2.1) (yw11 4 0).2 (yw11 4 1).1 (X2.2.1) (yw11 4 1).2 X2.2.2)]) fun yy vv hg hh => RtW.of_c (Rt.c (rout_any _ _ _ _ _ _ _ _ (S11_4.gr hg) (T11_4.gr hg)))) ?_
  refine .cons (.g 31 0 (c7.gr g2) rfl) ?_
  refine .cons (.g 45 0 (V7_6.gr g8) rfl) ?_
  refine .cons (.g 45 0 (V7_6.gr g8) rfl) ?_
  refine .cons (.k (fun yy => #[.agg (crA (k : Int) (nN k) qc), .agg (ptA (yw7 4 0).1 (P.1) (yw7 4 0).2 (yw7 4 1).1 (P.2.1) (yw7 4 1).2 P.2.2), .agg (ptA (yw7 4 0).1 (P.1) (yw7 4 0).2 (yw7 4 1).1 (P.2.1) (yw7 4 1).2 P.2.2)]) fun yy vv hg hh => RtW.of_pt (hX2 ▸ rplusQ k h1 h2 qc oP oP (fun j => (HQ j).gr (g2.trans hg)) (S7_4.gr (g8.trans hg)) (T7_4.gr (g8.trans hg)) (S7_4.gr (g8.trans hg)) (T7_4.gr (g8.trans hg)))) ?_
  refine .cons (.k (fun yy => #[.agg (ptA (yy 24 0).1 (X2.1) (yy 24 0).2 (yy 24 1).1 (X2.2.1) (yy 24 1).2 X2.2.2)]) fun yy vv hg hh => RtW.of_c (Rt.c (rout_any _ _ _ _ _ _ _ _ (hh 24 rfl).1 (hh 24 rfl).2))) ?_
  refine .cons (.s (.binOp .neq 35 (.const (.agg (pnt X2.1 X2.2.1 X2.2.2))) (.const (.agg (pnt X2.1 X2.2.1 X2.2.2))) 35) rfl fun vv hg => by simp [go_sem, exI, nePn, eqN_self]) .nil
 intro yw12 v9 hg h12
 simp only [FW, putFrom, Act.put, lqA, lqB, lqC, wvals, kW, lqD, lqE, Kw.c, Kw.pt]
 clear h12
 replace g2 := g2.trans hg
 replace g3 := g3.trans hg
 replace g4 := g4.trans hg
 replace g5 := g5.trans hg
 replace g8 := g8.trans hg
 replace g9 := g9.trans hg
 have g12 := hg
 clear hg
 go_upto_region 14 with fail
 refine wp_wS [.c (.bool false), .c (.bool true)] [] ?hs23 ?hf23
 case hs23 => exact .nil
 intro yw14 v10 hg h14
 simp only [FW, putFrom, Act.put, lqA, lqB, lqC, wvals, kW, lqD, lqE, Kw.c]
 clear h14
 replace g12 := g12.trans hg
 replace g2 := g2.trans hg
 replace g3 := g3.trans hg
 replace g4 := g4.trans hg
 replace g5 := g5.trans hg
 replace g8 := g8.trans hg
 replace g9 := g9.trans hg
 clear hg
 go_upto_region 15 with fail
 refine wp_wS [.c (.int .i64 1501), .c (.int .i64 1501), .c (.bool true), .c (.bool true), .c (.agg (prj 0 0 0)), .c (.agg (prj 0 0 0)), .c (.bool true), .c (.bool true), .c (.bool true), .c (.bool true), .c (.bool true), .c (.bool true)] [1, 4, 6, 9] ?hs24 ?hf24
 case hs24 =>
  refine .cons (.k _ fun yy vv hg hh => RtW.of_c (Rt.same (num_any _ _))) ?_
  refine .cons (.g 27 0 (V3_7.gr g4) rfl) ?_
  refine .cons (.s (.binOp .eql 27 (.const (.agg (prj 0 0 0))) (.const (.agg (prj 0 0 0))) 27) rfl fun vv hg => by simp [go_sem, exI, eqPj, eqN_self]) ?_
  refine .cons (.k _ fun yy vv hg hh => RtW.of_c (Rt.c (HAW.out _))) .nil
 intro yw15 v11 hg h15
 simp only [FW, putFrom, Act.put, lqA, lqB, lqC, wvals, kW, lqD, lqE, Kw.c]
 clear h15
 replace g12 := g12.trans hg
 replace g2 := g2.trans hg
 replace g3 := g3.trans hg
 replace g4 := g4.trans hg
 replace g5 := g5.trans hg
 replace g8 := g8.trans hg
 replace g9 := g9.trans hg
 clear hg
 replace G := G.trans g2
 replace c0 := c0.gr g2
 replace c1 := c1.gr g2
 replace c7 := c7.gr g2
 replace HQ := fun k => (HQ k).gr g2
 replace V2_6 := V2_6.gr g3
 replace V3_7 := V3_7.gr g4
 replace V4_6 := V4_6.gr g5
 replace V7_6 := V7_6.gr g8
 replace S7_4 := S7_4.gr g8
 replace T7_4 := T7_4.gr g8
 replace V8_6 := V8_6.gr g9
 replace S8_4 := S8_4.gr g9
 replace T8_4 := T8_4.gr g9
 replace V11_6 := V11_6.gr g12
 replace S11_4 := S11_4.gr g12
 replace T11_4 := T11_4.gr g12
 clear g12 g2 g3 g4 g5 g8 g9
 go_wp2_with fail
 go_ret
 exact ⟨rfl, G⟩
theorem ljprojs_3 {k : Nat} (h1 : 1 ≤ k) (h2 : k ≤ 15) {S T : T3} {P Q : Q3} (trS : TrQ k S P) (trT : TrQ k T Q) (w : World) : Cg 3 #[.int .i64 (k : Int), .agg (prj S.1 S.2.1 S.2.2), .agg (prj T.1 T.2.1 T.2.2)] w (.bool true) := by
 have HGR : Hid (∀ w, Calls Tryz.prog 10 #[.int .i64 (k : Int)] w (GetQ k w)) := fun w => getq_yes k h1 h2 w
 have HAW : Hid (∀ w, Cg 15 #[] w (.bool true)) := fun w => awake15_any w
 have oP := trS.on
 obtain ⟨D, hD⟩ : ∃ Z, addT k S S = Z := ⟨_, rfl⟩
 obtain ⟨X2, hX2⟩ : ∃ Z, plQ k P P = Z := ⟨_, rfl⟩
 have trD : TrQ k D X2 := hD ▸ hX2 ▸ addT_tr h1 h2 trS trS
 have oQ := trT.on
 obtain ⟨R, hR⟩ : ∃ Z, addT k S T = Z := ⟨_, rfl⟩
 obtain ⟨X, hX⟩ : ∃ Z, plQ k P Q = Z := ⟨_, rfl⟩
 have trR : TrQ k R X := hR ▸ hX ▸ addT_tr h1 h2 trS trT
 go_enter Tryz.func3, Tryz.ntmps3
 go_upto_region 1 with fail
 refine gen_w (fun v => Hid (Gr w v ∧ Vr v (w.heap.size) (prj S.1 S.2.1 S.2.2) ∧ Vr v (w.heap.size + 1) (prj T.1 T.2.1 T.2.2))) ⟨grA, vrA, vrA⟩ ?_
 intro u0 HV
 go_upto_region 2 with (go_at_call 10; refine (HGR.out _).mono ?_; rintro e WB ⟨qc, rfl, HQ, GB⟩)
 obtain ⟨e7, he7⟩ : ∃ b, WB.heap.size = b := ⟨_, rfl⟩
 simp only [he7]
 refine gen_w (fun v => Gr w v ∧ Vr v (w.heap.size) (prj S.1 S.2.1 S.2.2) ∧ Vr v (w.heap.size + 1) (prj T.1 T.2.1 T.2.2) ∧ Vr v e7 (crA (k : Int) (nN k) qc) ∧ ∀ j, Sl v (qc j).1 (nN k j)) ?_ ?_
 · subst he7
   obtain ⟨G, c0, c1⟩ := HV.out
   have g1 : Gr WB (WB.alloc (.cells (crA (k : Int) (nN k) qc) 31)) := (Gr.refl _).alloc _
   exact ⟨(G.trans GB).trans g1, (c0.gr GB).gr g1, (c1.gr GB).gr g1, Vr.new _ _ _, fun j => (HQ j).gr g1⟩
 clear he7 GB HGR HV HQ
 rintro v0 ⟨G, c0, c1, c7, HQ⟩
 refine wp_v false [.c (.int .i64 (k : Int)), .c (.agg (prj S.1 S.2.1 S.2.2)), .c (.tuple #[.agg (pnt P.1 P.2.1 P.2.2), .int .i64 0]), .c (.tuple #[.agg (pnt P.1 P.2.1 P.2.2), .int .i64 0]), .c (.agg (pnt P.1 P.2.1 P.2.2)), .c (.int .i64 0), .a, .u, .c (.int .i64 0)] [1, 2] [⟨6, 7, 35, pnt 0 0 false, fun _ => pnt P.1 P.2.1 P.2.2⟩] ?hs25 ?hv25 ?hf25
 case hs25 =>
  refine .cons (.g 27 0 c0 rfl) ?_
  refine .cons (.k _ fun yy vv hg hh => RtW.of_c (Rt.c (toQ h1 h2 trS _))) .nil
 case hv25 =>
  refine .cons (.mk (fun _ _ _ => rfl) (fun _ v b H F => by dsimp only at H ⊢; simp [go_sem, exI, H, F]) zPnt ⟨fkc, fkc, fkc, fkc, fkc, fkc, fka, fku, fkc, trivial⟩) .nil
 intro yw2 v1 hg h2 hV2
 simp only [FW, putFrom, Act.put, lqA, lqB, lqC, wvals, kW, lqD, lqE, Kw.c, Kw.a, Kw.u]
 obtain ⟨⟨N2_6, V2_6⟩, -⟩ : (v0.heap.size ≤ (yw2 6 0).2 ∧ Vr v1 (yw2 6 0).2 (pnt P.1 P.2.1 P.2.2)) ∧ True := hV2
 clear h2
 have g2 := hg
 clear hg
 go_upto_region 3 with fail
 refine wp_v false [.c (.int .i64 (k : Int)), .c (.agg (prj S.1 S.2.1 S.2.2)), .c (.agg (prj T.1 T.2.1 T.2.2)), .c (.tuple #[.agg (prj R.1 R.2.1 R.2.2), .int .i64 0]), .c (.tuple #[.agg (prj R.1 R.2.1 R.2.2), .int .i64 0]), .c (.agg (prj R.1 R.2.1 R.2.2)), .c (.int .i64 0), .a, .u, .c (.int .i64 0)] [1, 2, 3] [⟨7, 8, 27, prj 0 0 0, fun _ => prj R.1 R.2.1 R.2.2⟩] ?hs26 ?hv26 ?hf26
 case hs26 =>
  refine .cons (.g 27 0 (c0.gr g2) rfl) ?_
  refine .cons (.g 27 0 (c1.gr g2) rfl) ?_
  refine .cons (.k _ fun yy vv hg hh => RtW.of_c (Rt.c (jaddQ h1 h2 trS trT hR _))) .nil
 case hv26 =>
  refine .cons (.mk (fun _ _ _ => rfl) (fun _ v b H F => by dsimp only at H ⊢; simp [go_sem, exI, H, F]) zPj ⟨fkc, fkc, fkc, fkc, fkc, fkc, fkc, fka, fku, fkc, trivial⟩) .nil
 intro yw3 v2 hg h3 hV3
 simp only [FW, putFrom, Act.put, lqA, lqB, lqC, wvals, kW, lqD, lqE, Kw.c, Kw.a, Kw.u]
 obtain ⟨⟨N3_7, V3_7⟩, -⟩ : (v1.heap.size ≤ (yw3 7 0).2 ∧ Vr v2 (yw3 7 0).2 (prj R.1 R.2.1 R.2.2)) ∧ True := hV3
 clear h3
 replace g2 := g2.trans hg
 have g3 := hg
 clear hg
 go_upto_region 4 with fail
 refine wp_v false [.c (.int .i64 (k : Int)), .c (.agg (prj S.1 S.2.1 S.2.2)), .c (.tuple #[.agg (prj D.1 D.2.1 D.2.2), .int .i64 0]), .c (.tuple #[.agg (prj D.1 D.2.1 D.2.2), .int .i64 0]), .c (.agg (prj D.1 D.2.1 D.2.2)), .c (.int .i64 0), .a, .u, .c (.int .i64 0)] [1, 2] [⟨6, 7, 27, prj 0 0 0, fun _ => prj D.1 D.2.1 D.2.2⟩] ?hs27 ?hv27 ?hf27
 case hs27 =>
  refine .cons (.g 27 0 (c0.gr g2) rfl) ?_
  refine .cons (.k _ fun yy vv hg hh => RtW.of_c (Rt.c (jdblQ h1 h2 trS hD _))) .nil
 case hv27 =>
  refine .cons (.mk (fun _ _ _ => rfl) (fun _ v b H F => by dsimp only at H ⊢; simp [go_sem, exI, H, F]) zPj ⟨fkc, fkc, fkc, fkc, fkc, fkc, fka, fku, fkc, trivial⟩) .nil
 intro yw4 v3 hg h4 hV4
 simp only [FW, putFrom, Act.put, lqA, lqB, lqC, wvals, kW, lqD, lqE, Kw.c, Kw.a, Kw.u]
 obtain ⟨⟨N4_6, V4_6⟩, -⟩ : (v2.heap.size ≤ (yw4 6 0).2 ∧ Vr v3 (yw4 6 0).2 (prj D.1 D.2.1 D.2.2)) ∧ True := hV4
 clear h4
 replace g2 := g2.trans hg
 replace g3 := g3.trans hg
 have g4 := hg
 clear hg
 go_upto_region 5 with fail
 refine wp_wS [.c (.bool true), .c (.bool false)] [] ?hs28 ?hf28
 case hs28 => exact .nil
 intro yw5 v4 hg h5
 simp only [FW, putFrom, Act.put, lqA, lqB, lqC, wvals, kW, lqD, lqE, Kw.c]
 clear h5
 replace g2 := g2.trans hg
 replace g3 := g3.trans hg
 replace g4 := g4.trans hg
 have g5 := hg
 clear hg
 go_upto_region 7 with fail
 refine wp_v false [.c (.agg (crA (k : Int) (nN k) qc)), .c (.agg (prj S.1 S.2.1 S.2.2)), .tb (P.1) (P.2.1) P.2.2 true, .tb (P.1) (P.2.1) P.2.2 true, .pt (P.1) (P.2.1) P.2.2, .c (.bool true), .a, .u, .c (.bool true)] [0, 1, 2, 3, 4, 5] [⟨6, 7, 45, ptA none 0 0 none 0 0 false, fun yy => ptA (yy 4 0).1 (P.1) (yy 4 0).2 (yy 4 1).1 (P.2.1) (yy 4 1).2 P.2.2⟩] ?hs29 ?hv29 ?hf29
 case hs29 =>
  refine .cons (.g 31 0 (c7.gr g2) rfl) ?_
  refine .cons (.g 27 0 (c0.gr g2) rfl) ?_
  refine .cons (.k _ fun yy vv hg hh =>  (tripT h1 h2 trS qc _ (fun j => (HQ j).gr (g2.trans hg)))) ?_
  refine .cons (.m 2) ?_
  refine .cons (.m 3) ?_
  refine .cons (.m 3) .nil
 case hv29 =>
  refine .cons (.mk (fun _ _ h => Value.agg.inj (h 4 rfl)) (fun _ v b H F => by dsimp only at H ⊢; simp [go_sem, exI, H, F]) zPt ⟨fkc, fkc, fkt bPt, fkt bPt, fkp bPt, fkc, fka, fku, fkc, trivial⟩) .nil
 intro yw7 v5 hg h7 hV7
 simp only [FW, putFrom, Act.put, lqA, lqB, lqC, wvals, kW, lqD, lqE, Kw.c, Kw.a, Kw.pt, Kw.tb, Kw.u]
 obtain ⟨S7_4, T7_4⟩ : Sl v5 (yw7 4 0).1 (P.1) ∧ Sl v5 (yw7 4 1).1 (P.2.1) := h7 4
 obtain ⟨⟨N7_6, V7_6⟩, -⟩ : (v4.heap.size ≤ (yw7 6 0).2 ∧ Vr v5 (yw7 6 0).2 (ptA (yw7 4 0).1 (P.1) (yw7 4 0).2 (yw7 4 1).1 (P.2.1) (yw7 4 1).2 P.2.2)) ∧ True := hV7
 clear h7
 replace g2 := g2.trans hg
 replace g3 := g3.trans hg
 replace g4 := g4.trans hg
 replace g5 := g5.trans hg
 clear hg
 go_upto_region 8 with fail
 refine wp_v false [.c (.agg (crA (k : Int) (nN k) qc)), .c (.agg (prj T.1 T.2.1 T.2.2)), .tb (Q.1) (Q.2.1) Q.2.2 true, .tb (Q.1) (Q.2.1) Q.2.2 true, .pt (Q.1) (Q.2.1) Q.2.2, .c (.bool true), .a, .u, .c (.bool true)] [0, 1, 2, 3, 4, 5] [⟨6, 7, 45, ptA none 0 0 none 0 0 false, fun yy => ptA (yy 4 0).1 (Q.1) (yy 4 0).2 (yy 4 1).1 (Q.2.1) (yy 4 1).2 Q.2.2⟩] ?hs30 ?hv30 ?hf30
 case hs30 =>
  refine .cons (.g 31 0 (c7.gr g2) rfl) ?_
  refine .cons (.g 27 0 (c1.gr g2) rfl) ?_
  refine .cons (.k _ fun yy vv hg hh =>  (tripT h1 h2 trT qc _ (fun j => (HQ j).gr (g2.trans hg)))) ?_
  refine .cons (.m 2) ?_
  refine .cons (.m 3) ?_
  refine .cons (.m 3) .nil
 case hv30 =>
  refine .cons (.mk (fun _ _ h => Value.agg.inj (h 4 rfl)) (fun _ v b H F => by dsimp only at H ⊢; simp [go_sem, exI, H, F]) zPt ⟨fkc, fkc, fkt bPt, fkt bPt, fkp bPt, fkc, fka, fku, fkc, trivial⟩) .nil
 intro yw8 v6 hg h8 hV8
 simp only [FW, putFrom, Act.put, lqA, lqB, lqC, wvals, kW, lqD, lqE, Kw.c, Kw.a, Kw.pt, Kw.tb, Kw.u]
 obtain ⟨S8_4, T8_4⟩ : Sl v6 (yw8 4 0).1 (Q.1) ∧ Sl v6 (yw8 4 1).1 (Q.2.1) := h8 4
 obtain ⟨⟨N8_6, V8_6⟩, -⟩ : (v5.heap.size ≤ (yw8 6 0).2 ∧ Vr v6 (yw8 6 0).2 (ptA (yw8 4 0).1 (Q.1) (yw8 4 0).2 (yw8 4 1).1 (Q.2.1) (yw8 4 1).2 Q.2.2)) ∧ True := hV8
 clear h8
 replace g2 := g2.trans hg
 replace g3 := g3.trans hg
 replace g4 := g4.trans hg
 replace g5 := g5.trans hg
 have g8 := hg
 clear hg
 go_upto_region 9 with fail
 refine wp_wS [.c (.bool true), .c (.bool false)] [] ?hs31 ?hf31
 case hs31 => exact .nil
 intro yw9 v7 hg h9
 simp only [FW, putFrom, Act.put, lqA, lqB, lqC, wvals, kW, lqD, lqE, Kw.c]
 clear h9
 replace g2 := g2.trans hg
 replace g3 := g3.trans hg
 replace g4 := g4.trans hg
 replace g5 := g5.trans hg
 replace g8 := g8.trans hg
 have g9 := hg
 clear hg
 go_upto_region 11 with fail
 refine wp_v false [.c (.agg (crA (k : Int) (nN k) qc)), .c (.agg (prj D.1 D.2.1 D.2.2)), .tb (X2.1) (X2.2.1) X2.2.2 true, .tb (X2.1) (X2.2.1) X2.2.2 true, .pt (X2.1) (X2.2.1) X2.2.2, .c (.bool true), .a, .u, .c (.bool true)] [0, 1, 2, 3, 4, 5] [⟨6, 7, 45, ptA none 0 0 none 0 0 false, fun yy => ptA (yy 4 0).1 (X2.1) (yy 4 0).2 (yy 4 1).1 (X2.2.1) (yy 4 1).2 X2.2.2⟩] ?hs32 ?hv32 ?hf32
 case hs32 =>
  refine .cons (.g 31 0 (c7.gr g2) rfl) ?_
  refine .cons (.g 27 0 (V4_6.gr g5) rfl) ?_
  refine .cons (.k _ fun yy vv hg hh =>  (tripT h1 h2 trD qc _ (fun j => (HQ j).gr (g2.trans hg)))) ?_
  refine .cons (.m 2) ?_
  refine .cons (.m 3) ?_
  refine .cons (.m 3) .nil
 case hv32 =>
  refine .cons (.mk (fun _ _ h => Value.agg.inj (h 4 rfl)) (fun _ v b H F => by dsimp only at H ⊢; simp [go_sem, exI, H, F]) zPt ⟨fkc, fkc, fkt bPt, fkt bPt, fkp bPt, fkc, fka, fku, fkc, trivial⟩) .nil
 intro yw11 v8 hg h11 hV11
 simp only [FW, putFrom, Act.put, lqA, lqB, lqC, wvals, kW, lqD, lqE, Kw.c, Kw.a, Kw.pt, Kw.tb, Kw.u]
 obtain ⟨S11_4, T11_4⟩ : Sl v8 (yw11 4 0).1 (X2.1) ∧ Sl v8 (yw11 4 1).1 (X2.2.1) := h11 4
 obtain ⟨⟨N11_6, V11_6⟩, -⟩ : (v7.heap.size ≤ (yw11 6 0).2 ∧ Vr v8 (yw11 6 0).2 (ptA (yw11 4 0).1 (X2.1) (yw11 4 0).2 (yw11 4 1).1 (X2.2.1) (yw11 4 1).2 X2.2.2)) ∧ True := hV11
 clear h11
 replace g2 := g2.trans hg
 replace g3 := g3.trans hg
 replace g4 := g4.trans hg
 replace g5 := g5.trans hg
 replace g8 := g8.trans hg
 replace g9 := g9.trans hg
 clear hg
 go_upto_region 12 with fail
 refine wp_w [.c (.int .i64 0), .c (.int .i64 0), .c (.bool false), .c (.bool false), .c (.agg (pnt P.1 P.2.1 P.2.2)), .c (.agg (ptA (yw7 4 0).1 (P.1) (yw7 4 0).2 (yw7 4 1).1 (P.2.1) (yw7 4 1).2 P.2.2)), .c (.agg (pnt P.1 P.2.1 P.2.2)), .c (.bool false), .c (.bool false), .c (.bool false), .c (.int .i64 0), .c (.int .i64 0), .c (.bool false), .c (.bool false), .c (.bool false), .c (.bool true), .c (.bool false), .c (.bool false), .c (.bool false), .c (.agg (ptA (yw11 4 0).1 (X2.1) (yw11 4 0).2 (yw11 4 1).1 (X2.2.1) (yw11 4 1).2 X2.2.2)), .c (.agg (pnt X2.1 X2.2.1 X2.2.2)), .c (.agg (crA (k : Int) (nN k) qc)), .c (.agg (ptA (yw7 4 0).1 (P.1) (yw7 4 0).2 (yw7 4 1).1 (P.2.1) (yw7 4 1).2 P.2.2)), .c (.agg (ptA (yw7 4 0).1 (P.1) (yw7 4 0).2 (yw7 4 1).1 (P.2.1) (yw7 4 1).2 P.2.2)), .pt (X2.1) (X2.2.1) X2.2.2, .c (.agg (pnt X2.1 X2.2.1 X2.2.2)), .c (.bool false), .c (.bool false)] [1, 4, 5, 6, 7, 11, 19, 20, 21, 22, 23, 24, 25, 26] ?hs33 ?hf33
 case hs33 =>
  refine .cons (.k _ fun yy vv hg hh => RtW.of_c (Rt.same (num_any _ _))) ?_
  refine .cons (.g 35 0 (V2_6.gr g3) rfl) ?_
  refine .cons (.g 45 0 (V7_6.gr g8) rfl) ?_
  refine .cons (.k (fun yy => #[.agg (ptA (yw7 4 0).1 (P.1) (yw7 4 0).2 (yw7 4 1).1 (P.2.1) (yw7 4 1).2 P.2.2)]) fun yy vv hg hh => RtW.of_c (Rt.c (rout_any _ _ _ _ _ _ _ _ (S7_4.gr (g8.trans hg)) (T7_4.gr (g8.trans hg))))) ?_
  refine .cons (.s (.binOp .neq 35 (.const (.agg (pnt P.1 P.2.1 P.2.2))) (.const (.agg (pnt P.1 P.2.1 P.2.2))) 35) rfl fun vv hg => by simp [go_sem, exI, nePn, eqN_self]) ?_
  refine .cons (.k _ fun yy vv hg hh => RtW.of_c (Rt.same (num_any _ _))) ?_
  refine .cons (.g 45 0 V11_6 rfl) ?_
  refine .cons (.k (fun yy => #[.agg (ptA (yw11 4 0).1 (X2.1) (yw11 4 0).2 (yw11 4 1).1 (X2.2.1) (yw11 4 1).2 X2.2.2)]) fun yy vv hg hh => RtW.of_c (Rt.c (rout_any _ _ _ _ _ _ _ _ (S11_4.gr hg) (T11_4.gr hg)))) ?_
  refine .cons (.g 31 0 (c7.gr g2) rfl) ?_
  refine .cons (.g 45 0 (V7_6.gr g8) rfl) ?_
  refine .cons (.g 45 0 (V7_6.gr g8) rfl) ?_
  refine .cons (.k (fun yy => #[.agg (crA (k : Int) (nN k) qc), .agg (ptA (yw7 4 0).1 (P.1) (yw7 4 0).2 (yw7 4 1).1 (P.2.1) (yw7 4 1).2 P.2.2), .agg (ptA (yw7 4 0).1 (P.1) (yw7 4 0).2 (yw7 4 1).1 (P.2.1) (yw7 4 1).2 P.2.2)]) fun yy vv hg hh => RtW.of_pt (hX2 ▸ rplusQ k h1 h2 qc oP oP (fun j => (HQ j).gr (g2.trans hg)) (S7_4.gr (g8.trans hg)) (T7_4.gr (g8.trans hg)) (S7_4.gr (g8.trans hg)) (T7_4.gr (g8.trans hg)))) ?_
  refine .cons (.k (fun yy => #[.agg (ptA (yy 24 0).1 (X2.1) (yy 24 0).2 (yy 24 1).1 (X2.2.1) (yy 24 1).2 X2.2.2)]) fun yy vv hg hh => RtW.of_c (Rt.c (rout_any _ _ _ _ _ _ _ _ (hh 24 rfl).1 (hh 24 rfl).2))) ?_
  refine .cons (.s (.binOp .neq 35 (.const (.agg (pnt X2.1 X2.2.1 X2.2.2))) (.const (.agg (pnt X2.1 X2.2.1 X2.2.2))) 35) rfl fun vv hg => by simp [go_sem, exI, nePn, eqN_self]) .nil
 intro yw12 v9 hg h12
 simp only [FW, putFrom, Act.put, lqA, lqB, lqC, wvals, kW, lqD, lqE, Kw.c, Kw.pt]
 clear h12
 replace g2 := g2.trans hg
 replace g3 := g3.trans hg
 replace g4 := g4.trans hg
 replace g5 := g5.trans hg
 replace g8 := g8.trans hg
 replace g9 := g9.trans hg
 have g12 := hg
 clear hg
 go_upto_region 14 with fail
 refine wp_wS [.c (.bool true), .c (.bool false)] [] ?hs34 ?hf34
 case hs34 => exact .nil
 intro yw14 v10 hg h14
 simp only [FW, putFrom, Act.put, lqA, lqB, lqC, wvals, kW, lqD, lqE, Kw.c]
 clear h14
 replace g12 := g12.trans hg
 replace g2 := g2.trans hg
 replace g3 := g3.trans hg
 replace g4 := g4.trans hg
 replace g5 := g5.trans hg
 replace g8 := g8.trans hg
 replace g9 := g9.trans hg
 clear hg
 go_upto_region 16 with fail
 refine wp_v false [.c (.agg (crA (k : Int) (nN k) qc)), .c (.agg (prj R.1 R.2.1 R.2.2)), .tb (X.1) (X.2.1) X.2.2 true, .tb (X.1) (X.2.1) X.2.2 true, .pt (X.1) (X.2.1) X.2.2, .c (.bool true), .a, .u, .c (.bool true)] [0, 1, 2, 3, 4, 5] [⟨6, 7, 45, ptA none 0 0 none 0 0 false, fun yy => ptA (yy 4 0).1 (X.1) (yy 4 0).2 (yy 4 1).1 (X.2.1) (yy 4 1).2 X.2.2⟩] ?hs35 ?hv35 ?hf35
 case hs35 =>
  refine .cons (.g 31 0 (c7.gr g2) rfl) ?_
  refine .cons (.g 27 0 (V3_7.gr g4) rfl) ?_
  refine .cons (.k _ fun yy vv hg hh =>  (tripT h1 h2 trR qc _ (fun j => (HQ j).gr (g2.trans hg)))) ?_
  refine .cons (.m 2) ?_
  refine .cons (.m 3) ?_
  refine .cons (.m 3) .nil
 case hv35 =>
  refine .cons (.mk (fun _ _ h => Value.agg.inj (h 4 rfl)) (fun _ v b H F => by dsimp only at H ⊢; simp [go_sem, exI, H, F]) zPt ⟨fkc, fkc, fkt bPt, fkt bPt, fkp bPt, fkc, fka, fku, fkc, trivial⟩) .nil
 intro yw16 v11 hg h16 hV16
 simp only [FW, putFrom, Act.put, lqA, lqB, lqC, wvals, kW, lqD, lqE, Kw.c, Kw.a, Kw.pt, Kw.tb, Kw.u]
 obtain ⟨S16_4, T16_4⟩ : Sl v11 (yw16 4 0).1 (X.1) ∧ Sl v11 (yw16 4 1).1 (X.2.1) := h16 4
 obtain ⟨⟨N16_6, V16_6⟩, -⟩ : (v10.heap.size ≤ (yw16 6 0).2 ∧ Vr v11 (yw16 6 0).2 (ptA (yw16 4 0).1 (X.1) (yw16 4 0).2 (yw16 4 1).1 (X.2.1) (yw16 4 1).2 X.2.2)) ∧ True := hV16
 clear h16
 replace g12 := g12.trans hg
 replace g2 := g2.trans hg
 replace g3 := g3.trans hg
 replace g4 := g4.trans hg
 replace g5 := g5.trans hg
 replace g8 := g8.trans hg
 replace g9 := g9.trans hg
 clear hg
 go_upto_region 17 with fail
 refine wp_w [.c (.int .i64 0), .c (.int .i64 0), .c (.bool true), .c (.bool true), .c (.bool true), .c (.bool true), .c (.bool true), .c (.agg (ptA (yw16 4 0).1 (X.1) (yw16 4 0).2 (yw16 4 1).1 (X.2.1) (yw16 4 1).2 X.2.2)), .c (.agg (pnt X.1 X.2.1 X.2.2)), .c (.agg (crA (k : Int) (nN k) qc)), .c (.agg (ptA (yw7 4 0).1 (P.1) (yw7 4 0).2 (yw7 4 1).1 (P.2.1) (yw7 4 1).2 P.2.2)), .c (.agg (ptA (yw8 4 0).1 (Q.1) (yw8 4 0).2 (yw8 4 1).1 (Q.2.1) (yw8 4 1).2 Q.2.2)), .pt (X.1) (X.2.1) X.2.2, .c (.agg (pnt X.1 X.2.1 X.2.2)), .c (.bool true), .c (.bool true), .c (.bool true), .c (.bool true), .c (.bool true), .c (.bool true)] [1, 7, 8, 9, 10, 11, 12, 13, 14, 17] ?hs36 ?hf36
 case hs36 =>
  refine .cons (.k _ fun yy vv hg hh => RtW.of_c (Rt.same (num_any _ _))) ?_
  refine .cons (.g 45 0 V16_6 rfl) ?_
  refine .cons (.k (fun yy => #[.agg (ptA (yw16 4 0).1 (X.1) (yw16 4 0).2 (yw16 4 1).1 (X.2.1) (yw16 4 1).2 X.2.2)]) fun yy vv hg hh => RtW.of_c (Rt.c (rout_any _ _ _ _ _ _ _ _ (S16_4.gr hg) (T16_4.gr hg)))) ?_
  refine .cons (.g 31 0 (c7.gr g2) rfl) ?_
  refine .cons (.g 45 0 (V7_6.gr g8) rfl) ?_
  refine .cons (.g 45 0 (V8_6.gr g9) rfl) ?_
  refine .cons (.k (fun yy => #[.agg (crA (k : Int) (nN k) qc), .agg (ptA (yw7 4 0).1 (P.1) (yw7 4 0).2 (yw7 4 1).1 (P.2.1) (yw7 4 1).2 P.2.2), .agg (ptA (yw8 4 0).1 (Q.1) (yw8 4 0).2 (yw8 4 1).1 (Q.2.1) (yw8 4 1).2 Q.2.2)]) fun yy vv hg hh => RtW.of_pt (hX ▸ rplusQ k h1 h2 qc oP oQ (fun j => (HQ j).gr (g2.trans hg)) (S7_4.gr (g8.trans hg)) (T7_4.gr (g8.trans hg)) (S8_4.gr (g9.trans hg)) (T8_4.gr (g9.trans hg)))) ?_
  refine .cons (.k (fun yy => #[.agg (ptA (yy 12 0).1 (X.1) (yy 12 0).2 (yy 12 1).1 (X.2.1) (yy 12 1).2 X.2.2)]) fun yy vv hg hh => RtW.of_c (Rt.c (rout_any _ _ _ _ _ _ _ _ (hh 12 rfl).1 (hh 12 rfl).2))) ?_
  refine .cons (.s (.binOp .eql 35 (.const (.agg (pnt X.1 X.2.1 X.2.2))) (.const (.agg (pnt X.1 X.2.1 X.2.2))) 35) rfl fun vv hg => by simp [go_sem, exI, eqPn, eqN_self]) ?_
  refine .cons (.k _ fun yy vv hg hh => RtW.of_c (Rt.c (HAW.out _))) .nil
 intro yw17 v12 hg h17
 simp only [FW, putFrom, Act.put, lqA, lqB, lqC, wvals, kW, lqD, lqE, Kw.c, Kw.pt]
 clear h17
 replace g12 := g12.trans hg
 replace g2 := g2.trans hg
 replace g3 := g3.trans hg
 replace g4 := g4.trans hg
 replace g5 := g5.trans hg
 replace g8 := g8.trans hg
 replace g9 := g9.trans hg
 have g17 := hg
 clear hg
 replace G := G.trans g2
 replace c0 := c0.gr g2
 replace c1 := c1.gr g2
 replace c7 := c7.gr g2
 replace HQ := fun k => (HQ k).gr g2
 replace V2_6 := V2_6.gr g3
 replace V3_7 := V3_7.gr g4
 replace V4_6 := V4_6.gr g5
 replace V7_6 := V7_6.gr g8
 replace S7_4 := S7_4.gr g8
 replace T7_4 := T7_4.gr g8
 replace V8_6 := V8_6.gr g9
 replace S8_4 := S8_4.gr g9
 replace T8_4 := T8_4.gr g9
 replace V11_6 := V11_6.gr g12
 replace S11_4 := S11_4.gr g12
 replace T11_4 := T11_4.gr g12
 replace V16_6 := V16_6.gr g17
 replace S16_4 := S16_4.gr g17
 replace T16_4 := T16_4.gr g17
 clear g12 g17 g2 g3 g4 g5 g8 g9
 go_wp2_with fail
 go_ret
 exact ⟨rfl, G⟩
theorem ljprojs_any (id : Int) (S T : T3) (lS : S.1 < M ∧ S.2.1 < M ∧ S.2.2 < M) (lT : T.1 < M ∧ T.2.1 < M ∧ T.2.2 < M) (w : World) : Cg 3 #[.int .i64 id, .agg (prj S.1 S.2.1 S.2.2), .agg (prj T.1 T.2.1 T.2.2)] w (.bool true) := by
 by_cases h : 1 ≤ id ∧ id ≤ 15
 · obtain ⟨k, rfl⟩ : ∃ k : Nat, id = (k : Int) := ⟨id.toNat, by omega⟩
   have h1 : 1 ≤ k := by omega
   have h2 : k ≤ 15 := by omega
   by_cases tS : ∃ P, TrQ k S P
   · obtain ⟨P, tS⟩ := tS
     by_cases tT : ∃ Q, TrQ k T Q
     · obtain ⟨Q, tT⟩ := tT
       exact ljprojs_3 h1 h2 tS tT w
     · exact ljprojs_2 h1 h2 lS lT tS (fun Q g => tT ⟨Q, g⟩) w
   · exact ljprojs_1 h1 h2 lS lT (fun Q g => tS ⟨Q, g⟩) w
 · exact ljprojs_0 id (by omega) S T w
end
end
end Go.Proofs.YtempibiahmmppaaGreat
