import Derived.Test.YtlbkhhihkomahaaGreatXSAU
import Derived.Test.YtlbkhhihkomahaaGreatXSRGet
namespace Go.Proofs.YtlbkhhihkomahaaGreat
open Go.RowKit
attribute [local go_sem ↓] loadNat_is loadArr_is loadWide_is loadArrW_is storeNat_is storeWide_is
attribute [local go_sem] loadNat loadArr loadWide loadArrW storeNat storeWide idxArr fold9 fold18 nw_size nw_elem pre_self pre_1 pre_2 pre_3 pre_4 pre_5 pre_6 pre_7 pre_8 pre_9 pre_10 pre_11 pre_12 pre_13 pre_14 pre_15 pre_16 pre_17 pre_18 pre_19 pre_20 pre_21 pre_22 pre_23 pre_24 pre_25 pre_26 pre_27 pre_28 pre_29 pre_30 pre_31 pre_32 pre_33 pre_34 pre_35 pre_36 pre_37 pre_38 pre_39 pre_40 gro_size gro_drew gro_drewN drew_gro drewN_gro gro_gro blk_gro frz_gro blk_drew frz_drew blk_drewN frz_drewN blk_alloc_at frz_alloc_at blk_alloc frz_alloc cell_gro frozen_gro cell_alloc_pre frozen_alloc_pre setCell_drewN alloc_drewN setBlk_drew setBlk_drewN setBlk_alloc_at setBlk_alloc setBlk_gro setCell_gro setCell_alloc_pre size_setBlk size_setCell
attribute [local go_sem] ppre_1 ppre_2 ppre_3 ppre_4 ppre_5 ppre_6
attribute [local go_sem ↓] bsl_is loadC_is storeC_is loadPt_is storePt_is zvPt_is buildPt_is loadPn_is storePn_is zvPn_is loadCu_is storeCu_is zvCu_is buildCu_is buildPn_is Go.wp_at_zero Go.wp_at_succ
attribute [local go_sem] loadC storeC0 storeCr crA_size loadPt storePt zvPt ptA_size loadPn storePn zvPn pnt_size loadCu storeCu zvCu cu_size buildCu0 buildPnI buildPn2 loadCP loadCA loadCB loadCN loadCG loadCX loadCY cu_P cu_A cu_B cu_N cu_G cu_X cu_Y frz_setBlk blk_setBlk setBlk_setBlk blk_other
set_option maxRecDepth 100000 in
set_option maxHeartbeats 1600000 in
theorem laffines_0 (id : Int) (h : id < 1 ∨ 15 < id) (P Q : Q3) (w : World) : Calls Tryz.prog 3 #[.int .i64 id, .agg (pnt P.1 P.2.1 P.2.2), .agg (pnt Q.1 Q.2.1 Q.2.2)] w fun e w' => e = .returned (.bool true) ∧ Gr w w' := by
  have HGR : Hid (∀ w, Calls Tryz.prog 12 #[.int .i64 id] w fun e w' => e = .returned (.tuple #[.agg #[.int .i64 0, .slice none 0 0, .slice none 0 0, .slice none 0 0, .slice none 0 0, .slice none 0 0, .slice none 0 0], .bool false]) ∧ Gr w w') := fun w => get_no id h w
  have HAW : Hid (∀ w, Calls Tryz.prog 16 #[] w fun e w' => e = .returned (.bool true) ∧ Gr w w') := fun w => awake14_any w
  go_enter Tryz.func3, Tryz.ntmps3
  go_upto_region 1 with fail
  refine gen_w (fun v => Hid (Gr w v ∧ Vr v (w.heap.size) (pnt P.1 P.2.1 P.2.2) ∧ Vr v (w.heap.size + 1) (pnt Q.1 Q.2.1 Q.2.2))) ⟨(by repeat (first | exact Gr.refl _ | apply Gr.drewN | apply Gr.drew | apply Gr.alloc | apply Gr.gro)), ⟨by simp [go_sem], by simp [go_sem], by simp [go_sem]⟩, ⟨by simp [go_sem], by simp [go_sem], by simp [go_sem]⟩⟩ ?_
  intro u0 HV
  go_upto_region 2 with (go_at_call 12; refine (HGR.out _).mono ?_; rintro e WB ⟨rfl, GB⟩)
  obtain ⟨e7, he7⟩ : ∃ b, WB.heap.size = b := ⟨_, rfl⟩
  simp only [he7]
  refine gen_w (fun v => Gr w v ∧ Vr v (w.heap.size) (pnt P.1 P.2.1 P.2.2) ∧ Vr v (w.heap.size + 1) (pnt Q.1 Q.2.1 Q.2.2)) ?_ ?_
  · subst he7
    obtain ⟨G, c0, c1⟩ := HV.out
    have g1 : Gr WB (WB.alloc (.cells (#[.int .i64 0, .slice none 0 0, .slice none 0 0, .slice none 0 0, .slice none 0 0, .slice none 0 0, .slice none 0 0]) 31)) := (Gr.refl _).alloc _
    exact ⟨(G.trans GB).trans g1, (c0.gr GB).gr g1, (c1.gr GB).gr g1⟩
  clear he7 GB HGR HV
  rintro v0 ⟨G, c0, c1⟩
  refine wp_v false [.c (.int .i64 id), .c (.agg (pnt P.1 P.2.1 P.2.2)), .c (.agg (pnt Q.1 Q.2.1 Q.2.2)), .c (.tuple #[.agg (pnt 0 0 false), .int .i64 1400]), .c (.tuple #[.agg (pnt 0 0 false), .int .i64 1400]), .c (.agg (pnt 0 0 false)), .c (.int .i64 1400), .a, .u, .c (.int .i64 1400)] [1, 2, 3] [⟨7, 8, 27, pnt 0 0 false, fun _ => pnt 0 0 false⟩] ?hs1 ?hv1 ?hf1
  case hs1 =>
   refine .cons (.g 27 0 c0 rfl) ?_
   refine .cons (.g 27 0 c1 rfl) ?_
   refine .cons (.k _ fun yy vv hg hh => RtW.of_c (Rt.c (add_no id h P Q _))) .nil
  case hv1 =>
   refine .cons (.mk (fun _ _ _ => rfl) (fun _ v b H F => by dsimp only at H ⊢; simp [go_sem, exI, H, F]) zPnt ⟨fkc, fkc, fkc, fkc, fkc, fkc, fkc, fka, fku, fkc, trivial⟩) .nil
  intro yw2 v1 hg h2 hV2
  simp only [FW, putFrom, Act.put, List.setIfInBounds_toArray, List.set_cons_zero, List.set_cons_succ, wvals, kW, List.getD_cons_zero, List.getD_cons_succ, Kw.c, Kw.a, Kw.u]
  obtain ⟨⟨N2_7, V2_7⟩, -⟩ : (v0.heap.size ≤ (yw2 7 0).2 ∧ Vr v1 (yw2 7 0).2 (pnt 0 0 false)) ∧ True := hV2
  clear h2
  replace G := G.trans hg
  replace c0 := c0.gr hg
  replace c1 := c1.gr hg
  clear hg
  go_upto_region 3 with fail
  refine wp_v false [.c (.int .i64 id), .c (.agg (pnt P.1 P.2.1 P.2.2)), .c (.tuple #[.agg (pnt 0 0 false), .int .i64 1400]), .c (.tuple #[.agg (pnt 0 0 false), .int .i64 1400]), .c (.agg (pnt 0 0 false)), .c (.int .i64 1400), .a, .u, .c (.int .i64 1400)] [1, 2] [⟨6, 7, 27, pnt 0 0 false, fun _ => pnt 0 0 false⟩] ?hs2 ?hv2 ?hf2
  case hs2 =>
   refine .cons (.g 27 0 c0 rfl) ?_
   refine .cons (.k _ fun yy vv hg hh => RtW.of_c (Rt.c (neg_no id h P _))) .nil
  case hv2 =>
   refine .cons (.mk (fun _ _ _ => rfl) (fun _ v b H F => by dsimp only at H ⊢; simp [go_sem, exI, H, F]) zPnt ⟨fkc, fkc, fkc, fkc, fkc, fkc, fka, fku, fkc, trivial⟩) .nil
  intro yw3 v2 hg h3 hV3
  simp only [FW, putFrom, Act.put, List.setIfInBounds_toArray, List.set_cons_zero, List.set_cons_succ, wvals, kW, List.getD_cons_zero, List.getD_cons_succ, Kw.c, Kw.a, Kw.u]
  obtain ⟨⟨N3_6, V3_6⟩, -⟩ : (v1.heap.size ≤ (yw3 6 0).2 ∧ Vr v2 (yw3 6 0).2 (pnt 0 0 false)) ∧ True := hV3
  clear h3
  replace G := G.trans hg
  replace c0 := c0.gr hg
  replace c1 := c1.gr hg
  replace V2_7 := V2_7.gr hg
  clear hg
  go_upto_region 4 with fail
  refine wp_wS [.c (.bool false), .c (.bool true)] [] ?hs3 ?hf3
  case hs3 => exact .nil
  intro yw4 v3 hg h4
  simp only [FW, putFrom, Act.put, List.setIfInBounds_toArray, List.set_cons_zero, List.set_cons_succ, wvals, kW, List.getD_cons_zero, List.getD_cons_succ, Kw.c]
  clear h4
  replace G := G.trans hg
  replace c0 := c0.gr hg
  replace c1 := c1.gr hg
  replace V2_7 := V2_7.gr hg
  replace V3_6 := V3_6.gr hg
  clear hg
  go_upto_region 5 with fail
  refine wp_wS [.c (.int .i64 1400), .c (.int .i64 1400), .c (.bool true), .c (.bool true), .c (.int .i64 1400), .c (.int .i64 1400), .c (.bool true), .c (.bool true), .c (.bool true), .c (.agg (pnt 0 0 false)), .c (.agg (pnt 0 0 false)), .c (.bool true), .c (.bool true), .c (.bool true), .c (.bool true), .c (.bool true), .c (.bool true)] [1, 5, 9, 11, 14] ?hs4 ?hf4
  case hs4 =>
   refine .cons (.k _ fun yy vv hg hh => RtW.of_c (Rt.same (num_any _ _))) ?_
   refine .cons (.k _ fun yy vv hg hh => RtW.of_c (Rt.same (num_any _ _))) ?_
   refine .cons (.g 27 0 V2_7 rfl) ?_
   refine .cons (.s (.binOp .eql 27 (.const (.agg (pnt 0 0 false))) (.const (.agg (pnt 0 0 false))) 27) rfl fun vv hg => by simp [go_sem, exI, eqPn, eqN_self]) ?_
   refine .cons (.k _ fun yy vv hg hh => RtW.of_c (Rt.c (HAW.out _))) .nil
  intro yw5 v4 hg h5
  simp only [FW, putFrom, Act.put, List.setIfInBounds_toArray, List.set_cons_zero, List.set_cons_succ, wvals, kW, List.getD_cons_zero, List.getD_cons_succ, Kw.c]
  clear h5
  replace G := G.trans hg
  replace c0 := c0.gr hg
  replace c1 := c1.gr hg
  replace V2_7 := V2_7.gr hg
  replace V3_6 := V3_6.gr hg
  clear hg
  go_wp2_with fail
  go_ret
  exact ⟨rfl, G⟩
set_option maxRecDepth 100000 in
set_option maxHeartbeats 1600000 in
theorem laffines_1 {k : Nat} (h1 : 1 ≤ k) (h2 : k ≤ 15) {P Q : Q3} (lP : P.1 < M ∧ P.2.1 < M) (lQ : Q.1 < M ∧ Q.2.1 < M) (oP : onB k P.1 P.2.1 P.2.2 = false) (w : World) : Calls Tryz.prog 3 #[.int .i64 (k : Int), .agg (pnt P.1 P.2.1 P.2.2), .agg (pnt Q.1 Q.2.1 Q.2.2)] w fun e w' => e = .returned (.bool true) ∧ Gr w w' := by
  have HGR : Hid (∀ w, Calls Tryz.prog 12 #[.int .i64 (k : Int)] w (GetQ k w)) := fun w => getq_yes k h1 h2 w
  have HAW : Hid (∀ w, Calls Tryz.prog 16 #[] w fun e w' => e = .returned (.bool true) ∧ Gr w w') := fun w => awake14_any w
  go_enter Tryz.func3, Tryz.ntmps3
  go_upto_region 1 with fail
  refine gen_w (fun v => Hid (Gr w v ∧ Vr v (w.heap.size) (pnt P.1 P.2.1 P.2.2) ∧ Vr v (w.heap.size + 1) (pnt Q.1 Q.2.1 Q.2.2))) ⟨(by repeat (first | exact Gr.refl _ | apply Gr.drewN | apply Gr.drew | apply Gr.alloc | apply Gr.gro)), ⟨by simp [go_sem], by simp [go_sem], by simp [go_sem]⟩, ⟨by simp [go_sem], by simp [go_sem], by simp [go_sem]⟩⟩ ?_
  intro u0 HV
  go_upto_region 2 with (go_at_call 12; refine (HGR.out _).mono ?_; rintro e WB ⟨qc, rfl, HQ, GB⟩)
  obtain ⟨e7, he7⟩ : ∃ b, WB.heap.size = b := ⟨_, rfl⟩
  simp only [he7]
  refine gen_w (fun v => Gr w v ∧ Vr v (w.heap.size) (pnt P.1 P.2.1 P.2.2) ∧ Vr v (w.heap.size + 1) (pnt Q.1 Q.2.1 Q.2.2) ∧ Vr v e7 (crA (k : Int) (nN k) qc) ∧ ∀ j, Sl v (qc j).1 (nN k j)) ?_ ?_
  · subst he7
    obtain ⟨G, c0, c1⟩ := HV.out
    have g1 : Gr WB (WB.alloc (.cells (crA (k : Int) (nN k) qc) 31)) := (Gr.refl _).alloc _
    exact ⟨(G.trans GB).trans g1, (c0.gr GB).gr g1, (c1.gr GB).gr g1, Vr.new _ _ _, fun j => (HQ j).gr g1⟩
  clear he7 GB HGR HV HQ
  rintro v0 ⟨G, c0, c1, c7, HQ⟩
  refine wp_v false [.c (.int .i64 (k : Int)), .c (.agg (pnt P.1 P.2.1 P.2.2)), .c (.agg (pnt Q.1 Q.2.1 Q.2.2)), .c (.tuple #[.agg (pnt 0 0 false), .int .i64 1401]), .c (.tuple #[.agg (pnt 0 0 false), .int .i64 1401]), .c (.agg (pnt 0 0 false)), .c (.int .i64 1401), .a, .u, .c (.int .i64 1401)] [1, 2, 3] [⟨7, 8, 27, pnt 0 0 false, fun _ => pnt 0 0 false⟩] ?hs5 ?hv5 ?hf5
  case hs5 =>
   refine .cons (.g 27 0 c0 rfl) ?_
   refine .cons (.g 27 0 c1 rfl) ?_
   refine .cons (.k _ fun yy vv hg hh => RtW.of_c (Rt.c (add_off h1 h2 lP lQ (.inl oP) _))) .nil
  case hv5 =>
   refine .cons (.mk (fun _ _ _ => rfl) (fun _ v b H F => by dsimp only at H ⊢; simp [go_sem, exI, H, F]) zPnt ⟨fkc, fkc, fkc, fkc, fkc, fkc, fkc, fka, fku, fkc, trivial⟩) .nil
  intro yw2 v1 hg h2 hV2
  simp only [FW, putFrom, Act.put, List.setIfInBounds_toArray, List.set_cons_zero, List.set_cons_succ, wvals, kW, List.getD_cons_zero, List.getD_cons_succ, Kw.c, Kw.a, Kw.u]
  obtain ⟨⟨N2_7, V2_7⟩, -⟩ : (v0.heap.size ≤ (yw2 7 0).2 ∧ Vr v1 (yw2 7 0).2 (pnt 0 0 false)) ∧ True := hV2
  clear h2
  replace G := G.trans hg
  replace c0 := c0.gr hg
  replace c1 := c1.gr hg
  replace c7 := c7.gr hg
  replace HQ := fun k => (HQ k).gr hg
  clear hg
  go_upto_region 3 with fail
  refine wp_v false [.c (.int .i64 (k : Int)), .c (.agg (pnt P.1 P.2.1 P.2.2)), .c (.tuple #[.agg (pnt 0 0 false), .int .i64 1401]), .c (.tuple #[.agg (pnt 0 0 false), .int .i64 1401]), .c (.agg (pnt 0 0 false)), .c (.int .i64 1401), .a, .u, .c (.int .i64 1401)] [1, 2] [⟨6, 7, 27, pnt 0 0 false, fun _ => pnt 0 0 false⟩] ?hs6 ?hv6 ?hf6
  case hs6 =>
   refine .cons (.g 27 0 c0 rfl) ?_
   refine .cons (.k _ fun yy vv hg hh => RtW.of_c (Rt.c (neg_off h1 h2 lP oP _))) .nil
  case hv6 =>
   refine .cons (.mk (fun _ _ _ => rfl) (fun _ v b H F => by dsimp only at H ⊢; simp [go_sem, exI, H, F]) zPnt ⟨fkc, fkc, fkc, fkc, fkc, fkc, fka, fku, fkc, trivial⟩) .nil
  intro yw3 v2 hg h3 hV3
  simp only [FW, putFrom, Act.put, List.setIfInBounds_toArray, List.set_cons_zero, List.set_cons_succ, wvals, kW, List.getD_cons_zero, List.getD_cons_succ, Kw.c, Kw.a, Kw.u]
  obtain ⟨⟨N3_6, V3_6⟩, -⟩ : (v1.heap.size ≤ (yw3 6 0).2 ∧ Vr v2 (yw3 6 0).2 (pnt 0 0 false)) ∧ True := hV3
  clear h3
  replace G := G.trans hg
  replace c0 := c0.gr hg
  replace c1 := c1.gr hg
  replace c7 := c7.gr hg
  replace V2_7 := V2_7.gr hg
  replace HQ := fun k => (HQ k).gr hg
  clear hg
  go_upto_region 4 with fail
  refine wp_wS [.c (.bool true), .c (.bool false)] [] ?hs7 ?hf7
  case hs7 => exact .nil
  intro yw4 v3 hg h4
  simp only [FW, putFrom, Act.put, List.setIfInBounds_toArray, List.set_cons_zero, List.set_cons_succ, wvals, kW, List.getD_cons_zero, List.getD_cons_succ, Kw.c]
  clear h4
  replace G := G.trans hg
  replace c0 := c0.gr hg
  replace c1 := c1.gr hg
  replace c7 := c7.gr hg
  replace V2_7 := V2_7.gr hg
  replace V3_6 := V3_6.gr hg
  replace HQ := fun k => (HQ k).gr hg
  clear hg
  go_upto_region 6 with fail
  refine wp_v true [.c (.agg (pnt P.1 P.2.1 P.2.2)), .pt (P.1) (P.2.1) P.2.2, .c (.agg (pnt Q.1 Q.2.1 Q.2.2)), .pt (Q.1) (Q.2.1) Q.2.2, .a, .a, .u, .u] [0, 1, 2, 3] [⟨4, 6, 41, ptA none 0 0 none 0 0 false, fun yy => ptA (yy 1 0).1 (P.1) (yy 1 0).2 (yy 1 1).1 (P.2.1) (yy 1 1).2 P.2.2⟩, ⟨5, 7, 41, ptA none 0 0 none 0 0 false, fun yy => ptA (yy 3 0).1 (Q.1) (yy 3 0).2 (yy 3 1).1 (Q.2.1) (yy 3 1).2 Q.2.2⟩] ?hs8 ?hv8 ?hf8
  case hs8 =>
   refine .cons (.g 27 0 c0 rfl) ?_
   refine .cons (.k _ fun yy vv hg hh => RtW.of_pt (rin_any _ _ _ lP.1 lP.2 _)) ?_
   refine .cons (.g 27 0 c1 rfl) ?_
   refine .cons (.k _ fun yy vv hg hh => RtW.of_pt (rin_any _ _ _ lQ.1 lQ.2 _)) .nil
  case hv8 =>
   refine .cons (.mk (fun _ _ h => Value.agg.inj (h 1 rfl)) (fun _ v b H F => by dsimp only at H ⊢; simp [go_sem, exI, H, F]) zPt ⟨fkc, fkp bPt, fkc, fkp bPt, fka, fka, fku, fku, trivial⟩) ?_
   refine .cons (.mk (fun _ _ h => Value.agg.inj (h 3 rfl)) (fun _ v b H F => by dsimp only at H ⊢; simp [go_sem, exI, H, F]) zPt ⟨fkc, fkp bPt, fkc, fkp bPt, fka, fka, fku, fku, trivial⟩) .nil
  intro yw6 v4 hg h6 hV6
  simp only [FW, putFrom, Act.put, List.setIfInBounds_toArray, List.set_cons_zero, List.set_cons_succ, wvals, kW, List.getD_cons_zero, List.getD_cons_succ, Kw.c, Kw.a, Kw.pt, Kw.u]
  obtain ⟨S6_1, T6_1⟩ : Sl v4 (yw6 1 0).1 (P.1) ∧ Sl v4 (yw6 1 1).1 (P.2.1) := h6 1
  obtain ⟨S6_3, T6_3⟩ : Sl v4 (yw6 3 0).1 (Q.1) ∧ Sl v4 (yw6 3 1).1 (Q.2.1) := h6 3
  obtain ⟨⟨N6_4, V6_4⟩, ⟨N6_5, V6_5⟩, -⟩ : (v3.heap.size ≤ (yw6 4 0).2 ∧ Vr v4 (yw6 4 0).2 (ptA (yw6 1 0).1 (P.1) (yw6 1 0).2 (yw6 1 1).1 (P.2.1) (yw6 1 1).2 P.2.2)) ∧ (v3.heap.size ≤ (yw6 5 0).2 ∧ Vr v4 (yw6 5 0).2 (ptA (yw6 3 0).1 (Q.1) (yw6 3 0).2 (yw6 3 1).1 (Q.2.1) (yw6 3 1).2 Q.2.2)) ∧ True := hV6
  clear h6
  replace G := G.trans hg
  replace c0 := c0.gr hg
  replace c1 := c1.gr hg
  replace c7 := c7.gr hg
  replace V2_7 := V2_7.gr hg
  replace V3_6 := V3_6.gr hg
  replace HQ := fun k => (HQ k).gr hg
  clear hg
  go_upto_region 7 with fail
  refine wp_wS [.c (.agg (crA (k : Int) (nN k) qc)), .c (.agg (ptA (yw6 1 0).1 (P.1) (yw6 1 0).2 (yw6 1 1).1 (P.2.1) (yw6 1 1).2 P.2.2)), .c (.bool false), .c (.bool false)] [0, 1, 2] ?hs9 ?hf9
  case hs9 =>
   refine .cons (.g 31 0 c7 rfl) ?_
   refine .cons (.g 41 0 V6_4 rfl) ?_
   refine .cons (.k (fun yy => #[.agg (crA (k : Int) (nN k) qc), .agg (ptA (yw6 1 0).1 (P.1) (yw6 1 0).2 (yw6 1 1).1 (P.2.1) (yw6 1 1).2 P.2.2)]) fun yy vv hg hh => RtW.of_c (ron_is h1 h2 lP oP qc (fun j => (HQ j).gr hg) (S6_1.gr hg) (T6_1.gr hg))) .nil
  intro yw7 v5 hg h7
  simp only [FW, putFrom, Act.put, List.setIfInBounds_toArray, List.set_cons_zero, List.set_cons_succ, wvals, kW, List.getD_cons_zero, List.getD_cons_succ, Kw.c]
  clear h7
  replace G := G.trans hg
  replace c0 := c0.gr hg
  replace c1 := c1.gr hg
  replace c7 := c7.gr hg
  replace V2_7 := V2_7.gr hg
  replace V3_6 := V3_6.gr hg
  replace V6_4 := V6_4.gr hg
  replace V6_5 := V6_5.gr hg
  replace HQ := fun k => (HQ k).gr hg
  replace S6_1 := S6_1.gr hg
  replace T6_1 := T6_1.gr hg
  replace S6_3 := S6_3.gr hg
  replace T6_3 := T6_3.gr hg
  clear hg
  go_upto_region 8 with fail
  refine wp_wS [.c (.bool false), .c (.bool true)] [] ?hs10 ?hf10
  case hs10 => exact .nil
  intro yw8 v6 hg h8
  simp only [FW, putFrom, Act.put, List.setIfInBounds_toArray, List.set_cons_zero, List.set_cons_succ, wvals, kW, List.getD_cons_zero, List.getD_cons_succ, Kw.c]
  clear h8
  replace G := G.trans hg
  replace c0 := c0.gr hg
  replace c1 := c1.gr hg
  replace c7 := c7.gr hg
  replace V2_7 := V2_7.gr hg
  replace V3_6 := V3_6.gr hg
  replace V6_4 := V6_4.gr hg
  replace V6_5 := V6_5.gr hg
  replace HQ := fun k => (HQ k).gr hg
  replace S6_1 := S6_1.gr hg
  replace T6_1 := T6_1.gr hg
  replace S6_3 := S6_3.gr hg
  replace T6_3 := T6_3.gr hg
  clear hg
  go_upto_region 9 with fail
  refine wp_wS [.c (.int .i64 1401), .c (.int .i64 1401), .c (.bool true), .c (.bool true), .c (.int .i64 1401), .c (.int .i64 1401), .c (.bool true), .c (.bool true), .c (.bool true), .c (.agg (pnt 0 0 false)), .c (.agg (pnt 0 0 false)), .c (.bool true), .c (.bool true), .c (.bool true), .c (.agg (pnt 0 0 false)), .c (.agg (pnt 0 0 false)), .c (.bool true), .c (.bool true), .c (.bool true), .c (.bool true), .c (.bool true), .c (.bool true)] [1, 5, 9, 11, 14, 16, 19] ?hs11 ?hf11
  case hs11 =>
   refine .cons (.k _ fun yy vv hg hh => RtW.of_c (Rt.same (num_any _ _))) ?_
   refine .cons (.k _ fun yy vv hg hh => RtW.of_c (Rt.same (num_any _ _))) ?_
   refine .cons (.g 27 0 V2_7 rfl) ?_
   refine .cons (.s (.binOp .eql 27 (.const (.agg (pnt 0 0 false))) (.const (.agg (pnt 0 0 false))) 27) rfl fun vv hg => by simp [go_sem, exI, eqPn, eqN_self]) ?_
   refine .cons (.g 27 0 V3_6 rfl) ?_
   refine .cons (.s (.binOp .eql 27 (.const (.agg (pnt 0 0 false))) (.const (.agg (pnt 0 0 false))) 27) rfl fun vv hg => by simp [go_sem, exI, eqPn, eqN_self]) ?_
   refine .cons (.k _ fun yy vv hg hh => RtW.of_c (Rt.c (HAW.out _))) .nil
  intro yw9 v7 hg h9
  simp only [FW, putFrom, Act.put, List.setIfInBounds_toArray, List.set_cons_zero, List.set_cons_succ, wvals, kW, List.getD_cons_zero, List.getD_cons_succ, Kw.c]
  clear h9
  replace G := G.trans hg
  replace c0 := c0.gr hg
  replace c1 := c1.gr hg
  replace c7 := c7.gr hg
  replace V2_7 := V2_7.gr hg
  replace V3_6 := V3_6.gr hg
  replace V6_4 := V6_4.gr hg
  replace V6_5 := V6_5.gr hg
  replace HQ := fun k => (HQ k).gr hg
  replace S6_1 := S6_1.gr hg
  replace T6_1 := T6_1.gr hg
  replace S6_3 := S6_3.gr hg
  replace T6_3 := T6_3.gr hg
  clear hg
  go_wp2_with fail
  go_ret
  exact ⟨rfl, G⟩
set_option maxRecDepth 100000 in
set_option maxHeartbeats 1600000 in
theorem laffines_2 {k : Nat} (h1 : 1 ≤ k) (h2 : k ≤ 15) {P Q : Q3} (lP : P.1 < M ∧ P.2.1 < M) (lQ : Q.1 < M ∧ Q.2.1 < M) (oP : onB k P.1 P.2.1 P.2.2 = true) (oQ : onB k Q.1 Q.2.1 Q.2.2 = false) (w : World) : Calls Tryz.prog 3 #[.int .i64 (k : Int), .agg (pnt P.1 P.2.1 P.2.2), .agg (pnt Q.1 Q.2.1 Q.2.2)] w fun e w' => e = .returned (.bool true) ∧ Gr w w' := by
  have HGR : Hid (∀ w, Calls Tryz.prog 12 #[.int .i64 (k : Int)] w (GetQ k w)) := fun w => getq_yes k h1 h2 w
  have HAW : Hid (∀ w, Calls Tryz.prog 16 #[] w fun e w' => e = .returned (.bool true) ∧ Gr w w') := fun w => awake14_any w
  obtain ⟨N, hN⟩ : ∃ Z, ngQ k P = Z := ⟨_, rfl⟩
  go_enter Tryz.func3, Tryz.ntmps3
  go_upto_region 1 with fail
  refine gen_w (fun v => Hid (Gr w v ∧ Vr v (w.heap.size) (pnt P.1 P.2.1 P.2.2) ∧ Vr v (w.heap.size + 1) (pnt Q.1 Q.2.1 Q.2.2))) ⟨(by repeat (first | exact Gr.refl _ | apply Gr.drewN | apply Gr.drew | apply Gr.alloc | apply Gr.gro)), ⟨by simp [go_sem], by simp [go_sem], by simp [go_sem]⟩, ⟨by simp [go_sem], by simp [go_sem], by simp [go_sem]⟩⟩ ?_
  intro u0 HV
  go_upto_region 2 with (go_at_call 12; refine (HGR.out _).mono ?_; rintro e WB ⟨qc, rfl, HQ, GB⟩)
  obtain ⟨e7, he7⟩ : ∃ b, WB.heap.size = b := ⟨_, rfl⟩
  simp only [he7]
  refine gen_w (fun v => Gr w v ∧ Vr v (w.heap.size) (pnt P.1 P.2.1 P.2.2) ∧ Vr v (w.heap.size + 1) (pnt Q.1 Q.2.1 Q.2.2) ∧ Vr v e7 (crA (k : Int) (nN k) qc) ∧ ∀ j, Sl v (qc j).1 (nN k j)) ?_ ?_
  · subst he7
    obtain ⟨G, c0, c1⟩ := HV.out
    have g1 : Gr WB (WB.alloc (.cells (crA (k : Int) (nN k) qc) 31)) := (Gr.refl _).alloc _
    exact ⟨(G.trans GB).trans g1, (c0.gr GB).gr g1, (c1.gr GB).gr g1, Vr.new _ _ _, fun j => (HQ j).gr g1⟩
  clear he7 GB HGR HV HQ
  rintro v0 ⟨G, c0, c1, c7, HQ⟩
  refine wp_v false [.c (.int .i64 (k : Int)), .c (.agg (pnt P.1 P.2.1 P.2.2)), .c (.agg (pnt Q.1 Q.2.1 Q.2.2)), .c (.tuple #[.agg (pnt 0 0 false), .int .i64 1401]), .c (.tuple #[.agg (pnt 0 0 false), .int .i64 1401]), .c (.agg (pnt 0 0 false)), .c (.int .i64 1401), .a, .u, .c (.int .i64 1401)] [1, 2, 3] [⟨7, 8, 27, pnt 0 0 false, fun _ => pnt 0 0 false⟩] ?hs12 ?hv12 ?hf12
  case hs12 =>
   refine .cons (.g 27 0 c0 rfl) ?_
   refine .cons (.g 27 0 c1 rfl) ?_
   refine .cons (.k _ fun yy vv hg hh => RtW.of_c (Rt.c (add_off h1 h2 lP lQ (.inr oQ) _))) .nil
  case hv12 =>
   refine .cons (.mk (fun _ _ _ => rfl) (fun _ v b H F => by dsimp only at H ⊢; simp [go_sem, exI, H, F]) zPnt ⟨fkc, fkc, fkc, fkc, fkc, fkc, fkc, fka, fku, fkc, trivial⟩) .nil
  intro yw2 v1 hg h2 hV2
  simp only [FW, putFrom, Act.put, List.setIfInBounds_toArray, List.set_cons_zero, List.set_cons_succ, wvals, kW, List.getD_cons_zero, List.getD_cons_succ, Kw.c, Kw.a, Kw.u]
  obtain ⟨⟨N2_7, V2_7⟩, -⟩ : (v0.heap.size ≤ (yw2 7 0).2 ∧ Vr v1 (yw2 7 0).2 (pnt 0 0 false)) ∧ True := hV2
  clear h2
  replace G := G.trans hg
  replace c0 := c0.gr hg
  replace c1 := c1.gr hg
  replace c7 := c7.gr hg
  replace HQ := fun k => (HQ k).gr hg
  clear hg
  go_upto_region 3 with fail
  refine wp_v false [.c (.int .i64 (k : Int)), .c (.agg (pnt P.1 P.2.1 P.2.2)), .c (.tuple #[.agg (pnt N.1 N.2.1 N.2.2), .int .i64 0]), .c (.tuple #[.agg (pnt N.1 N.2.1 N.2.2), .int .i64 0]), .c (.agg (pnt N.1 N.2.1 N.2.2)), .c (.int .i64 0), .a, .u, .c (.int .i64 0)] [1, 2] [⟨6, 7, 27, pnt 0 0 false, fun _ => pnt N.1 N.2.1 N.2.2⟩] ?hs13 ?hv13 ?hf13
  case hs13 =>
   refine .cons (.g 27 0 c0 rfl) ?_
   refine .cons (.k _ fun yy vv hg hh => RtW.of_c (Rt.c (negQ h1 h2 oP hN _))) .nil
  case hv13 =>
   refine .cons (.mk (fun _ _ _ => rfl) (fun _ v b H F => by dsimp only at H ⊢; simp [go_sem, exI, H, F]) zPnt ⟨fkc, fkc, fkc, fkc, fkc, fkc, fka, fku, fkc, trivial⟩) .nil
  intro yw3 v2 hg h3 hV3
  simp only [FW, putFrom, Act.put, List.setIfInBounds_toArray, List.set_cons_zero, List.set_cons_succ, wvals, kW, List.getD_cons_zero, List.getD_cons_succ, Kw.c, Kw.a, Kw.u]
  obtain ⟨⟨N3_6, V3_6⟩, -⟩ : (v1.heap.size ≤ (yw3 6 0).2 ∧ Vr v2 (yw3 6 0).2 (pnt N.1 N.2.1 N.2.2)) ∧ True := hV3
  clear h3
  replace G := G.trans hg
  replace c0 := c0.gr hg
  replace c1 := c1.gr hg
  replace c7 := c7.gr hg
  replace V2_7 := V2_7.gr hg
  replace HQ := fun k => (HQ k).gr hg
  clear hg
  go_upto_region 4 with fail
  refine wp_wS [.c (.bool true), .c (.bool false)] [] ?hs14 ?hf14
  case hs14 => exact .nil
  intro yw4 v3 hg h4
  simp only [FW, putFrom, Act.put, List.setIfInBounds_toArray, List.set_cons_zero, List.set_cons_succ, wvals, kW, List.getD_cons_zero, List.getD_cons_succ, Kw.c]
  clear h4
  replace G := G.trans hg
  replace c0 := c0.gr hg
  replace c1 := c1.gr hg
  replace c7 := c7.gr hg
  replace V2_7 := V2_7.gr hg
  replace V3_6 := V3_6.gr hg
  replace HQ := fun k => (HQ k).gr hg
  clear hg
  go_upto_region 6 with fail
  refine wp_v true [.c (.agg (pnt P.1 P.2.1 P.2.2)), .pt (P.1) (P.2.1) P.2.2, .c (.agg (pnt Q.1 Q.2.1 Q.2.2)), .pt (Q.1) (Q.2.1) Q.2.2, .a, .a, .u, .u] [0, 1, 2, 3] [⟨4, 6, 41, ptA none 0 0 none 0 0 false, fun yy => ptA (yy 1 0).1 (P.1) (yy 1 0).2 (yy 1 1).1 (P.2.1) (yy 1 1).2 P.2.2⟩, ⟨5, 7, 41, ptA none 0 0 none 0 0 false, fun yy => ptA (yy 3 0).1 (Q.1) (yy 3 0).2 (yy 3 1).1 (Q.2.1) (yy 3 1).2 Q.2.2⟩] ?hs15 ?hv15 ?hf15
  case hs15 =>
   refine .cons (.g 27 0 c0 rfl) ?_
   refine .cons (.k _ fun yy vv hg hh => RtW.of_pt (rin_any _ _ _ lP.1 lP.2 _)) ?_
   refine .cons (.g 27 0 c1 rfl) ?_
   refine .cons (.k _ fun yy vv hg hh => RtW.of_pt (rin_any _ _ _ lQ.1 lQ.2 _)) .nil
  case hv15 =>
   refine .cons (.mk (fun _ _ h => Value.agg.inj (h 1 rfl)) (fun _ v b H F => by dsimp only at H ⊢; simp [go_sem, exI, H, F]) zPt ⟨fkc, fkp bPt, fkc, fkp bPt, fka, fka, fku, fku, trivial⟩) ?_
   refine .cons (.mk (fun _ _ h => Value.agg.inj (h 3 rfl)) (fun _ v b H F => by dsimp only at H ⊢; simp [go_sem, exI, H, F]) zPt ⟨fkc, fkp bPt, fkc, fkp bPt, fka, fka, fku, fku, trivial⟩) .nil
  intro yw6 v4 hg h6 hV6
  simp only [FW, putFrom, Act.put, List.setIfInBounds_toArray, List.set_cons_zero, List.set_cons_succ, wvals, kW, List.getD_cons_zero, List.getD_cons_succ, Kw.c, Kw.a, Kw.pt, Kw.u]
  obtain ⟨S6_1, T6_1⟩ : Sl v4 (yw6 1 0).1 (P.1) ∧ Sl v4 (yw6 1 1).1 (P.2.1) := h6 1
  obtain ⟨S6_3, T6_3⟩ : Sl v4 (yw6 3 0).1 (Q.1) ∧ Sl v4 (yw6 3 1).1 (Q.2.1) := h6 3
  obtain ⟨⟨N6_4, V6_4⟩, ⟨N6_5, V6_5⟩, -⟩ : (v3.heap.size ≤ (yw6 4 0).2 ∧ Vr v4 (yw6 4 0).2 (ptA (yw6 1 0).1 (P.1) (yw6 1 0).2 (yw6 1 1).1 (P.2.1) (yw6 1 1).2 P.2.2)) ∧ (v3.heap.size ≤ (yw6 5 0).2 ∧ Vr v4 (yw6 5 0).2 (ptA (yw6 3 0).1 (Q.1) (yw6 3 0).2 (yw6 3 1).1 (Q.2.1) (yw6 3 1).2 Q.2.2)) ∧ True := hV6
  clear h6
  replace G := G.trans hg
  replace c0 := c0.gr hg
  replace c1 := c1.gr hg
  replace c7 := c7.gr hg
  replace V2_7 := V2_7.gr hg
  replace V3_6 := V3_6.gr hg
  replace HQ := fun k => (HQ k).gr hg
  clear hg
  go_upto_region 7 with fail
  refine wp_wS [.c (.agg (crA (k : Int) (nN k) qc)), .c (.agg (ptA (yw6 1 0).1 (P.1) (yw6 1 0).2 (yw6 1 1).1 (P.2.1) (yw6 1 1).2 P.2.2)), .c (.bool true), .c (.bool true)] [0, 1, 2] ?hs16 ?hf16
  case hs16 =>
   refine .cons (.g 31 0 c7 rfl) ?_
   refine .cons (.g 41 0 V6_4 rfl) ?_
   refine .cons (.k (fun yy => #[.agg (crA (k : Int) (nN k) qc), .agg (ptA (yw6 1 0).1 (P.1) (yw6 1 0).2 (yw6 1 1).1 (P.2.1) (yw6 1 1).2 P.2.2)]) fun yy vv hg hh => RtW.of_c (ron_is h1 h2 lP oP qc (fun j => (HQ j).gr hg) (S6_1.gr hg) (T6_1.gr hg))) .nil
  intro yw7 v5 hg h7
  simp only [FW, putFrom, Act.put, List.setIfInBounds_toArray, List.set_cons_zero, List.set_cons_succ, wvals, kW, List.getD_cons_zero, List.getD_cons_succ, Kw.c]
  clear h7
  replace G := G.trans hg
  replace c0 := c0.gr hg
  replace c1 := c1.gr hg
  replace c7 := c7.gr hg
  replace V2_7 := V2_7.gr hg
  replace V3_6 := V3_6.gr hg
  replace V6_4 := V6_4.gr hg
  replace V6_5 := V6_5.gr hg
  replace HQ := fun k => (HQ k).gr hg
  replace S6_1 := S6_1.gr hg
  replace T6_1 := T6_1.gr hg
  replace S6_3 := S6_3.gr hg
  replace T6_3 := T6_3.gr hg
  clear hg
  go_upto_region 8 with fail
  refine wp_wS [.c (.bool true), .c (.bool false)] [] ?hs17 ?hf17
  case hs17 => exact .nil
  intro yw8 v6 hg h8
  simp only [FW, putFrom, Act.put, List.setIfInBounds_toArray, List.set_cons_zero, List.set_cons_succ, wvals, kW, List.getD_cons_zero, List.getD_cons_succ, Kw.c]
  clear h8
  replace G := G.trans hg
  replace c0 := c0.gr hg
  replace c1 := c1.gr hg
  replace c7 := c7.gr hg
  replace V2_7 := V2_7.gr hg
  replace V3_6 := V3_6.gr hg
  replace V6_4 := V6_4.gr hg
  replace V6_5 := V6_5.gr hg
  replace HQ := fun k => (HQ k).gr hg
  replace S6_1 := S6_1.gr hg
  replace T6_1 := T6_1.gr hg
  replace S6_3 := S6_3.gr hg
  replace T6_3 := T6_3.gr hg
  clear hg
  go_upto_region 10 with fail
  refine wp_w [.c (.int .i64 0), .c (.int .i64 0), .c (.bool false), .c (.bool false), .c (.agg (pnt N.1 N.2.1 N.2.2)), .c (.agg (crA (k : Int) (nN k) qc)), .c (.agg (ptA (yw6 1 0).1 (P.1) (yw6 1 0).2 (yw6 1 1).1 (P.2.1) (yw6 1 1).2 P.2.2)), .pt (N.1) (N.2.1) N.2.2, .c (.agg (pnt N.1 N.2.1 N.2.2)), .c (.bool false), .c (.bool false)] [1, 4, 5, 6, 7, 8, 9] ?hs18 ?hf18
  case hs18 =>
   refine .cons (.k _ fun yy vv hg hh => RtW.of_c (Rt.same (num_any _ _))) ?_
   refine .cons (.g 27 0 V3_6 rfl) ?_
   refine .cons (.g 31 0 c7 rfl) ?_
   refine .cons (.g 41 0 V6_4 rfl) ?_
   refine .cons (.k (fun yy => #[.agg (crA (k : Int) (nN k) qc), .agg (ptA (yw6 1 0).1 (P.1) (yw6 1 0).2 (yw6 1 1).1 (P.2.1) (yw6 1 1).2 P.2.2)]) fun yy vv hg hh => RtW.of_pt (hN ▸ rnegQ k h1 h2 qc oP (fun j => (HQ j).gr hg) (S6_1.gr hg) (T6_1.gr hg))) ?_
   refine .cons (.k (fun yy => #[.agg (ptA (yy 7 0).1 (N.1) (yy 7 0).2 (yy 7 1).1 (N.2.1) (yy 7 1).2 N.2.2)]) fun yy vv hg hh => RtW.of_c (Rt.c (rout_any _ _ _ _ _ _ _ _ (hh 7 rfl).1 (hh 7 rfl).2))) ?_
   refine .cons (.s (.binOp .neq 27 (.const (.agg (pnt N.1 N.2.1 N.2.2))) (.const (.agg (pnt N.1 N.2.1 N.2.2))) 27) rfl fun vv hg => by simp [go_sem, exI, nePn, eqN_self]) .nil
  intro yw10 v7 hg h10
  simp only [FW, putFrom, Act.put, List.setIfInBounds_toArray, List.set_cons_zero, List.set_cons_succ, wvals, kW, List.getD_cons_zero, List.getD_cons_succ, Kw.c, Kw.pt]
  clear h10
  replace G := G.trans hg
  replace c0 := c0.gr hg
  replace c1 := c1.gr hg
  replace c7 := c7.gr hg
  replace V2_7 := V2_7.gr hg
  replace V3_6 := V3_6.gr hg
  replace V6_4 := V6_4.gr hg
  replace V6_5 := V6_5.gr hg
  replace HQ := fun k => (HQ k).gr hg
  replace S6_1 := S6_1.gr hg
  replace T6_1 := T6_1.gr hg
  replace S6_3 := S6_3.gr hg
  replace T6_3 := T6_3.gr hg
  clear hg
  go_upto_region 12 with fail
  refine wp_wS [.c (.agg (crA (k : Int) (nN k) qc)), .c (.agg (ptA (yw6 3 0).1 (Q.1) (yw6 3 0).2 (yw6 3 1).1 (Q.2.1) (yw6 3 1).2 Q.2.2)), .c (.bool false), .c (.bool true)] [0, 1, 2] ?hs19 ?hf19
  case hs19 =>
   refine .cons (.g 31 0 c7 rfl) ?_
   refine .cons (.g 41 0 V6_5 rfl) ?_
   refine .cons (.k (fun yy => #[.agg (crA (k : Int) (nN k) qc), .agg (ptA (yw6 3 0).1 (Q.1) (yw6 3 0).2 (yw6 3 1).1 (Q.2.1) (yw6 3 1).2 Q.2.2)]) fun yy vv hg hh => RtW.of_c (ron_is h1 h2 lQ oQ qc (fun j => (HQ j).gr hg) (S6_3.gr hg) (T6_3.gr hg))) .nil
  intro yw12 v8 hg h12
  simp only [FW, putFrom, Act.put, List.setIfInBounds_toArray, List.set_cons_zero, List.set_cons_succ, wvals, kW, List.getD_cons_zero, List.getD_cons_succ, Kw.c]
  clear h12
  replace G := G.trans hg
  replace c0 := c0.gr hg
  replace c1 := c1.gr hg
  replace c7 := c7.gr hg
  replace V2_7 := V2_7.gr hg
  replace V3_6 := V3_6.gr hg
  replace V6_4 := V6_4.gr hg
  replace V6_5 := V6_5.gr hg
  replace HQ := fun k => (HQ k).gr hg
  replace S6_1 := S6_1.gr hg
  replace T6_1 := T6_1.gr hg
  replace S6_3 := S6_3.gr hg
  replace T6_3 := T6_3.gr hg
  clear hg
  go_upto_region 13 with fail
  refine wp_wS [.c (.int .i64 1401), .c (.int .i64 1401), .c (.bool true), .c (.bool true), .c (.agg (pnt 0 0 false)), .c (.agg (pnt 0 0 false)), .c (.bool true), .c (.bool true), .c (.bool true), .c (.bool true), .c (.bool true), .c (.bool true)] [1, 4, 6, 9] ?hs20 ?hf20
  case hs20 =>
   refine .cons (.k _ fun yy vv hg hh => RtW.of_c (Rt.same (num_any _ _))) ?_
   refine .cons (.g 27 0 V2_7 rfl) ?_
   refine .cons (.s (.binOp .eql 27 (.const (.agg (pnt 0 0 false))) (.const (.agg (pnt 0 0 false))) 27) rfl fun vv hg => by simp [go_sem, exI, eqPn, eqN_self]) ?_
   refine .cons (.k _ fun yy vv hg hh => RtW.of_c (Rt.c (HAW.out _))) .nil
  intro yw13 v9 hg h13
  simp only [FW, putFrom, Act.put, List.setIfInBounds_toArray, List.set_cons_zero, List.set_cons_succ, wvals, kW, List.getD_cons_zero, List.getD_cons_succ, Kw.c]
  clear h13
  replace G := G.trans hg
  replace c0 := c0.gr hg
  replace c1 := c1.gr hg
  replace c7 := c7.gr hg
  replace V2_7 := V2_7.gr hg
  replace V3_6 := V3_6.gr hg
  replace V6_4 := V6_4.gr hg
  replace V6_5 := V6_5.gr hg
  replace HQ := fun k => (HQ k).gr hg
  replace S6_1 := S6_1.gr hg
  replace T6_1 := T6_1.gr hg
  replace S6_3 := S6_3.gr hg
  replace T6_3 := T6_3.gr hg
  clear hg
  go_wp2_with fail
  go_ret
  exact ⟨rfl, G⟩
set_option maxRecDepth 100000 in
set_option maxHeartbeats 1600000 in
theorem laffines_3 {k : Nat} (h1 : 1 ≤ k) (h2 : k ≤ 15) {P Q : Q3} (lP : P.1 < M ∧ P.2.1 < M) (lQ : Q.1 < M ∧ Q.2.1 < M) (oP : onB k P.1 P.2.1 P.2.2 = true) (oQ : onB k Q.1 Q.2.1 Q.2.2 = true) (w : World) : Calls Tryz.prog 3 #[.int .i64 (k : Int), .agg (pnt P.1 P.2.1 P.2.2), .agg (pnt Q.1 Q.2.1 Q.2.2)] w fun e w' => e = .returned (.bool true) ∧ Gr w w' := by
  have HGR : Hid (∀ w, Calls Tryz.prog 12 #[.int .i64 (k : Int)] w (GetQ k w)) := fun w => getq_yes k h1 h2 w
  have HAW : Hid (∀ w, Calls Tryz.prog 16 #[] w fun e w' => e = .returned (.bool true) ∧ Gr w w') := fun w => awake14_any w
  obtain ⟨N, hN⟩ : ∃ Z, ngQ k P = Z := ⟨_, rfl⟩
  obtain ⟨A, hA⟩ : ∃ Z, plQ k P Q = Z := ⟨_, rfl⟩
  go_enter Tryz.func3, Tryz.ntmps3
  go_upto_region 1 with fail
  refine gen_w (fun v => Hid (Gr w v ∧ Vr v (w.heap.size) (pnt P.1 P.2.1 P.2.2) ∧ Vr v (w.heap.size + 1) (pnt Q.1 Q.2.1 Q.2.2))) ⟨(by repeat (first | exact Gr.refl _ | apply Gr.drewN | apply Gr.drew | apply Gr.alloc | apply Gr.gro)), ⟨by simp [go_sem], by simp [go_sem], by simp [go_sem]⟩, ⟨by simp [go_sem], by simp [go_sem], by simp [go_sem]⟩⟩ ?_
  intro u0 HV
  go_upto_region 2 with (go_at_call 12; refine (HGR.out _).mono ?_; rintro e WB ⟨qc, rfl, HQ, GB⟩)
  obtain ⟨e7, he7⟩ : ∃ b, WB.heap.size = b := ⟨_, rfl⟩
  simp only [he7]
  refine gen_w (fun v => Gr w v ∧ Vr v (w.heap.size) (pnt P.1 P.2.1 P.2.2) ∧ Vr v (w.heap.size + 1) (pnt Q.1 Q.2.1 Q.2.2) ∧ Vr v e7 (crA (k : Int) (nN k) qc) ∧ ∀ j, Sl v (qc j).1 (nN k j)) ?_ ?_
  · subst he7
    obtain ⟨G, c0, c1⟩ := HV.out
    have g1 : Gr WB (WB.alloc (.cells (crA (k : Int) (nN k) qc) 31)) := (Gr.refl _).alloc _
    exact ⟨(G.trans GB).trans g1, (c0.gr GB).gr g1, (c1.gr GB).gr g1, Vr.new _ _ _, fun j => (HQ j).gr g1⟩
  clear he7 GB HGR HV HQ
  rintro v0 ⟨G, c0, c1, c7, HQ⟩
  refine wp_v false [.c (.int .i64 (k : Int)), .c (.agg (pnt P.1 P.2.1 P.2.2)), .c (.agg (pnt Q.1 Q.2.1 Q.2.2)), .c (.tuple #[.agg (pnt A.1 A.2.1 A.2.2), .int .i64 0]), .c (.tuple #[.agg (pnt A.1 A.2.1 A.2.2), .int .i64 0]), .c (.agg (pnt A.1 A.2.1 A.2.2)), .c (.int .i64 0), .a, .u, .c (.int .i64 0)] [1, 2, 3] [⟨7, 8, 27, pnt 0 0 false, fun _ => pnt A.1 A.2.1 A.2.2⟩] ?hs21 ?hv21 ?hf21
  case hs21 =>
   refine .cons (.g 27 0 c0 rfl) ?_
   refine .cons (.g 27 0 c1 rfl) ?_
   refine .cons (.k _ fun yy vv hg hh => RtW.of_c (Rt.c (addQ h1 h2 oP oQ hA _))) .nil
  case hv21 =>
   refine .cons (.mk (fun _ _ _ => rfl) (fun _ v b H F => by dsimp only at H ⊢; simp [go_sem, exI, H, F]) zPnt ⟨fkc, fkc, fkc, fkc, fkc, fkc, fkc, fka, fku, fkc, trivial⟩) .nil
  intro yw2 v1 hg h2 hV2
  simp only [FW, putFrom, Act.put, List.setIfInBounds_toArray, List.set_cons_zero, List.set_cons_succ, wvals, kW, List.getD_cons_zero, List.getD_cons_succ, Kw.c, Kw.a, Kw.u]
  obtain ⟨⟨N2_7, V2_7⟩, -⟩ : (v0.heap.size ≤ (yw2 7 0).2 ∧ Vr v1 (yw2 7 0).2 (pnt A.1 A.2.1 A.2.2)) ∧ True := hV2
  clear h2
  replace G := G.trans hg
  replace c0 := c0.gr hg
  replace c1 := c1.gr hg
  replace c7 := c7.gr hg
  replace HQ := fun k => (HQ k).gr hg
  clear hg
  go_upto_region 3 with fail
  refine wp_v false [.c (.int .i64 (k : Int)), .c (.agg (pnt P.1 P.2.1 P.2.2)), .c (.tuple #[.agg (pnt N.1 N.2.1 N.2.2), .int .i64 0]), .c (.tuple #[.agg (pnt N.1 N.2.1 N.2.2), .int .i64 0]), .c (.agg (pnt N.1 N.2.1 N.2.2)), .c (.int .i64 0), .a, .u, .c (.int .i64 0)] [1, 2] [⟨6, 7, 27, pnt 0 0 false, fun _ => pnt N.1 N.2.1 N.2.2⟩] ?hs22 ?hv22 ?hf22
  case hs22 =>
   refine .cons (.g 27 0 c0 rfl) ?_
   refine .cons (.k _ fun yy vv hg hh => RtW.of_c (Rt.c (negQ h1 h2 oP hN _))) .nil
  case hv22 =>
   refine .cons (.mk (fun _ _ _ => rfl) (fun _ v b H F => by dsimp only at H ⊢; simp [go_sem, exI, H, F]) zPnt ⟨fkc, fkc, fkc, fkc, fkc, fkc, fka, fku, fkc, trivial⟩) .nil
  intro yw3 v2 hg h3 hV3
  simp only [FW, putFrom, Act.put, List.setIfInBounds_toArray, List.set_cons_zero, List.set_cons_succ, wvals, kW, List.getD_cons_zero, List.getD_cons_succ, Kw.c, Kw.a, Kw.u]
  obtain ⟨⟨N3_6, V3_6⟩, -⟩ : (v1.heap.size ≤ (yw3 6 0).2 ∧ Vr v2 (yw3 6 0).2 (pnt N.1 N.2.1 N.2.2)) ∧ True := hV3
  clear h3
  replace G := G.trans hg
  replace c0 := c0.gr hg
  replace c1 := c1.gr hg
  replace c7 := c7.gr hg
  replace V2_7 := V2_7.gr hg
  replace HQ := fun k => (HQ k).gr hg
  clear hg
  go_upto_region 4 with fail
  refine wp_wS [.c (.bool true), .c (.bool false)] [] ?hs23 ?hf23
  case hs23 => exact .nil
  intro yw4 v3 hg h4
  simp only [FW, putFrom, Act.put, List.setIfInBounds_toArray, List.set_cons_zero, List.set_cons_succ, wvals, kW, List.getD_cons_zero, List.getD_cons_succ, Kw.c]
  clear h4
  replace G := G.trans hg
  replace c0 := c0.gr hg
  replace c1 := c1.gr hg
  replace c7 := c7.gr hg
  replace V2_7 := V2_7.gr hg
  replace V3_6 := V3_6.gr hg
  replace HQ := fun k => (HQ k).gr hg
  clear hg
  go_upto_region 6 with fail
  refine wp_v true [.c (.agg (pnt P.1 P.2.1 P.2.2)), .pt (P.1) (P.2.1) P.2.2, .c (.agg (pnt Q.1 Q.2.1 Q.2.2)), .pt (Q.1) (Q.2.1) Q.2.2, .a, .a, .u, .u] [0, 1, 2, 3] [⟨4, 6, 41, ptA none 0 0 none 0 0 false, fun yy => ptA (yy 1 0).1 (P.1) (yy 1 0).2 (yy 1 1).1 (P.2.1) (yy 1 1).2 P.2.2⟩, ⟨5, 7, 41, ptA none 0 0 none 0 0 false, fun yy => ptA (yy 3 0).1 (Q.1) (yy 3 0).2 (yy 3 1).1 (Q.2.1) (yy 3 1).2 Q.2.2⟩] ?hs24 ?hv24 ?hf24
  case hs24 =>
   refine .cons (.g 27 0 c0 rfl) ?_
   refine .cons (.k _ fun yy vv hg hh => RtW.of_pt (rin_any _ _ _ lP.1 lP.2 _)) ?_
   refine .cons (.g 27 0 c1 rfl) ?_
   refine .cons (.k _ fun yy vv hg hh => RtW.of_pt (rin_any _ _ _ lQ.1 lQ.2 _)) .nil
  case hv24 =>
   refine .cons (.mk (fun _ _ h => Value.agg.inj (h 1 rfl)) (fun _ v b H F => by dsimp only at H ⊢; simp [go_sem, exI, H, F]) zPt ⟨fkc, fkp bPt, fkc, fkp bPt, fka, fka, fku, fku, trivial⟩) ?_
   refine .cons (.mk (fun _ _ h => Value.agg.inj (h 3 rfl)) (fun _ v b H F => by dsimp only at H ⊢; simp [go_sem, exI, H, F]) zPt ⟨fkc, fkp bPt, fkc, fkp bPt, fka, fka, fku, fku, trivial⟩) .nil
  intro yw6 v4 hg h6 hV6
  simp only [FW, putFrom, Act.put, List.setIfInBounds_toArray, List.set_cons_zero, List.set_cons_succ, wvals, kW, List.getD_cons_zero, List.getD_cons_succ, Kw.c, Kw.a, Kw.pt, Kw.u]
  obtain ⟨S6_1, T6_1⟩ : Sl v4 (yw6 1 0).1 (P.1) ∧ Sl v4 (yw6 1 1).1 (P.2.1) := h6 1
  obtain ⟨S6_3, T6_3⟩ : Sl v4 (yw6 3 0).1 (Q.1) ∧ Sl v4 (yw6 3 1).1 (Q.2.1) := h6 3
  obtain ⟨⟨N6_4, V6_4⟩, ⟨N6_5, V6_5⟩, -⟩ : (v3.heap.size ≤ (yw6 4 0).2 ∧ Vr v4 (yw6 4 0).2 (ptA (yw6 1 0).1 (P.1) (yw6 1 0).2 (yw6 1 1).1 (P.2.1) (yw6 1 1).2 P.2.2)) ∧ (v3.heap.size ≤ (yw6 5 0).2 ∧ Vr v4 (yw6 5 0).2 (ptA (yw6 3 0).1 (Q.1) (yw6 3 0).2 (yw6 3 1).1 (Q.2.1) (yw6 3 1).2 Q.2.2)) ∧ True := hV6
  clear h6
  replace G := G.trans hg
  replace c0 := c0.gr hg
  replace c1 := c1.gr hg
  replace c7 := c7.gr hg
  replace V2_7 := V2_7.gr hg
  replace V3_6 := V3_6.gr hg
  replace HQ := fun k => (HQ k).gr hg
  clear hg
  go_upto_region 7 with fail
  refine wp_wS [.c (.agg (crA (k : Int) (nN k) qc)), .c (.agg (ptA (yw6 1 0).1 (P.1) (yw6 1 0).2 (yw6 1 1).1 (P.2.1) (yw6 1 1).2 P.2.2)), .c (.bool true), .c (.bool true)] [0, 1, 2] ?hs25 ?hf25
  case hs25 =>
   refine .cons (.g 31 0 c7 rfl) ?_
   refine .cons (.g 41 0 V6_4 rfl) ?_
   refine .cons (.k (fun yy => #[.agg (crA (k : Int) (nN k) qc), .agg (ptA (yw6 1 0).1 (P.1) (yw6 1 0).2 (yw6 1 1).1 (P.2.1) (yw6 1 1).2 P.2.2)]) fun yy vv hg hh => RtW.of_c (ron_is h1 h2 lP oP qc (fun j => (HQ j).gr hg) (S6_1.gr hg) (T6_1.gr hg))) .nil
  intro yw7 v5 hg h7
  simp only [FW, putFrom, Act.put, List.setIfInBounds_toArray, List.set_cons_zero, List.set_cons_succ, wvals, kW, List.getD_cons_zero, List.getD_cons_succ, Kw.c]
  clear h7
  replace G := G.trans hg
  replace c0 := c0.gr hg
  replace c1 := c1.gr hg
  replace c7 := c7.gr hg
  replace V2_7 := V2_7.gr hg
  replace V3_6 := V3_6.gr hg
  replace V6_4 := V6_4.gr hg
  replace V6_5 := V6_5.gr hg
  replace HQ := fun k => (HQ k).gr hg
  replace S6_1 := S6_1.gr hg
  replace T6_1 := T6_1.gr hg
  replace S6_3 := S6_3.gr hg
  replace T6_3 := T6_3.gr hg
  clear hg
  go_upto_region 8 with fail
  refine wp_wS [.c (.bool true), .c (.bool false)] [] ?hs26 ?hf26
  case hs26 => exact .nil
  intro yw8 v6 hg h8
  simp only [FW, putFrom, Act.put, List.setIfInBounds_toArray, List.set_cons_zero, List.set_cons_succ, wvals, kW, List.getD_cons_zero, List.getD_cons_succ, Kw.c]
  clear h8
  replace G := G.trans hg
  replace c0 := c0.gr hg
  replace c1 := c1.gr hg
  replace c7 := c7.gr hg
  replace V2_7 := V2_7.gr hg
  replace V3_6 := V3_6.gr hg
  replace V6_4 := V6_4.gr hg
  replace V6_5 := V6_5.gr hg
  replace HQ := fun k => (HQ k).gr hg
  replace S6_1 := S6_1.gr hg
  replace T6_1 := T6_1.gr hg
  replace S6_3 := S6_3.gr hg
  replace T6_3 := T6_3.gr hg
  clear hg
  go_upto_region 10 with fail
  refine wp_w [.c (.int .i64 0), .c (.int .i64 0), .c (.bool false), .c (.bool false), .c (.agg (pnt N.1 N.2.1 N.2.2)), .c (.agg (crA (k : Int) (nN k) qc)), .c (.agg (ptA (yw6 1 0).1 (P.1) (yw6 1 0).2 (yw6 1 1).1 (P.2.1) (yw6 1 1).2 P.2.2)), .pt (N.1) (N.2.1) N.2.2, .c (.agg (pnt N.1 N.2.1 N.2.2)), .c (.bool false), .c (.bool false)] [1, 4, 5, 6, 7, 8, 9] ?hs27 ?hf27
  case hs27 =>
   refine .cons (.k _ fun yy vv hg hh => RtW.of_c (Rt.same (num_any _ _))) ?_
   refine .cons (.g 27 0 V3_6 rfl) ?_
   refine .cons (.g 31 0 c7 rfl) ?_
   refine .cons (.g 41 0 V6_4 rfl) ?_
   refine .cons (.k (fun yy => #[.agg (crA (k : Int) (nN k) qc), .agg (ptA (yw6 1 0).1 (P.1) (yw6 1 0).2 (yw6 1 1).1 (P.2.1) (yw6 1 1).2 P.2.2)]) fun yy vv hg hh => RtW.of_pt (hN ▸ rnegQ k h1 h2 qc oP (fun j => (HQ j).gr hg) (S6_1.gr hg) (T6_1.gr hg))) ?_
   refine .cons (.k (fun yy => #[.agg (ptA (yy 7 0).1 (N.1) (yy 7 0).2 (yy 7 1).1 (N.2.1) (yy 7 1).2 N.2.2)]) fun yy vv hg hh => RtW.of_c (Rt.c (rout_any _ _ _ _ _ _ _ _ (hh 7 rfl).1 (hh 7 rfl).2))) ?_
   refine .cons (.s (.binOp .neq 27 (.const (.agg (pnt N.1 N.2.1 N.2.2))) (.const (.agg (pnt N.1 N.2.1 N.2.2))) 27) rfl fun vv hg => by simp [go_sem, exI, nePn, eqN_self]) .nil
  intro yw10 v7 hg h10
  simp only [FW, putFrom, Act.put, List.setIfInBounds_toArray, List.set_cons_zero, List.set_cons_succ, wvals, kW, List.getD_cons_zero, List.getD_cons_succ, Kw.c, Kw.pt]
  clear h10
  replace G := G.trans hg
  replace c0 := c0.gr hg
  replace c1 := c1.gr hg
  replace c7 := c7.gr hg
  replace V2_7 := V2_7.gr hg
  replace V3_6 := V3_6.gr hg
  replace V6_4 := V6_4.gr hg
  replace V6_5 := V6_5.gr hg
  replace HQ := fun k => (HQ k).gr hg
  replace S6_1 := S6_1.gr hg
  replace T6_1 := T6_1.gr hg
  replace S6_3 := S6_3.gr hg
  replace T6_3 := T6_3.gr hg
  clear hg
  go_upto_region 12 with fail
  refine wp_wS [.c (.agg (crA (k : Int) (nN k) qc)), .c (.agg (ptA (yw6 3 0).1 (Q.1) (yw6 3 0).2 (yw6 3 1).1 (Q.2.1) (yw6 3 1).2 Q.2.2)), .c (.bool true), .c (.bool false)] [0, 1, 2] ?hs28 ?hf28
  case hs28 =>
   refine .cons (.g 31 0 c7 rfl) ?_
   refine .cons (.g 41 0 V6_5 rfl) ?_
   refine .cons (.k (fun yy => #[.agg (crA (k : Int) (nN k) qc), .agg (ptA (yw6 3 0).1 (Q.1) (yw6 3 0).2 (yw6 3 1).1 (Q.2.1) (yw6 3 1).2 Q.2.2)]) fun yy vv hg hh => RtW.of_c (ron_is h1 h2 lQ oQ qc (fun j => (HQ j).gr hg) (S6_3.gr hg) (T6_3.gr hg))) .nil
  intro yw12 v8 hg h12
  simp only [FW, putFrom, Act.put, List.setIfInBounds_toArray, List.set_cons_zero, List.set_cons_succ, wvals, kW, List.getD_cons_zero, List.getD_cons_succ, Kw.c]
  clear h12
  replace G := G.trans hg
  replace c0 := c0.gr hg
  replace c1 := c1.gr hg
  replace c7 := c7.gr hg
  replace V2_7 := V2_7.gr hg
  replace V3_6 := V3_6.gr hg
  replace V6_4 := V6_4.gr hg
  replace V6_5 := V6_5.gr hg
  replace HQ := fun k => (HQ k).gr hg
  replace S6_1 := S6_1.gr hg
  replace T6_1 := T6_1.gr hg
  replace S6_3 := S6_3.gr hg
  replace T6_3 := T6_3.gr hg
  clear hg
  go_upto_region 14 with fail
  refine wp_w [.c (.int .i64 0), .c (.int .i64 0), .c (.bool true), .c (.bool true), .c (.agg (pnt A.1 A.2.1 A.2.2)), .c (.agg (crA (k : Int) (nN k) qc)), .c (.agg (ptA (yw6 1 0).1 (P.1) (yw6 1 0).2 (yw6 1 1).1 (P.2.1) (yw6 1 1).2 P.2.2)), .c (.agg (ptA (yw6 3 0).1 (Q.1) (yw6 3 0).2 (yw6 3 1).1 (Q.2.1) (yw6 3 1).2 Q.2.2)), .pt (A.1) (A.2.1) A.2.2, .c (.agg (pnt A.1 A.2.1 A.2.2)), .c (.bool true), .c (.bool true), .c (.bool true), .c (.bool true), .c (.bool true), .c (.bool true)] [1, 4, 5, 6, 7, 8, 9, 10, 13] ?hs29 ?hf29
  case hs29 =>
   refine .cons (.k _ fun yy vv hg hh => RtW.of_c (Rt.same (num_any _ _))) ?_
   refine .cons (.g 27 0 V2_7 rfl) ?_
   refine .cons (.g 31 0 c7 rfl) ?_
   refine .cons (.g 41 0 V6_4 rfl) ?_
   refine .cons (.g 41 0 V6_5 rfl) ?_
   refine .cons (.k (fun yy => #[.agg (crA (k : Int) (nN k) qc), .agg (ptA (yw6 1 0).1 (P.1) (yw6 1 0).2 (yw6 1 1).1 (P.2.1) (yw6 1 1).2 P.2.2), .agg (ptA (yw6 3 0).1 (Q.1) (yw6 3 0).2 (yw6 3 1).1 (Q.2.1) (yw6 3 1).2 Q.2.2)]) fun yy vv hg hh => RtW.of_pt (hA ▸ rplusQ k h1 h2 qc oP oQ (fun j => (HQ j).gr hg) (S6_1.gr hg) (T6_1.gr hg) (S6_3.gr hg) (T6_3.gr hg))) ?_
   refine .cons (.k (fun yy => #[.agg (ptA (yy 8 0).1 (A.1) (yy 8 0).2 (yy 8 1).1 (A.2.1) (yy 8 1).2 A.2.2)]) fun yy vv hg hh => RtW.of_c (Rt.c (rout_any _ _ _ _ _ _ _ _ (hh 8 rfl).1 (hh 8 rfl).2))) ?_
   refine .cons (.s (.binOp .eql 27 (.const (.agg (pnt A.1 A.2.1 A.2.2))) (.const (.agg (pnt A.1 A.2.1 A.2.2))) 27) rfl fun vv hg => by simp [go_sem, exI, eqPn, eqN_self]) ?_
   refine .cons (.k _ fun yy vv hg hh => RtW.of_c (Rt.c (HAW.out _))) .nil
  intro yw14 v9 hg h14
  simp only [FW, putFrom, Act.put, List.setIfInBounds_toArray, List.set_cons_zero, List.set_cons_succ, wvals, kW, List.getD_cons_zero, List.getD_cons_succ, Kw.c, Kw.pt]
  clear h14
  replace G := G.trans hg
  replace c0 := c0.gr hg
  replace c1 := c1.gr hg
  replace c7 := c7.gr hg
  replace V2_7 := V2_7.gr hg
  replace V3_6 := V3_6.gr hg
  replace V6_4 := V6_4.gr hg
  replace V6_5 := V6_5.gr hg
  replace HQ := fun k => (HQ k).gr hg
  replace S6_1 := S6_1.gr hg
  replace T6_1 := T6_1.gr hg
  replace S6_3 := S6_3.gr hg
  replace T6_3 := T6_3.gr hg
  clear hg
  go_wp2_with fail
  go_ret
  exact ⟨rfl, G⟩
theorem laffines_any (id : Int) (P Q : Q3) (lP : P.1 < M ∧ P.2.1 < M) (lQ : Q.1 < M ∧ Q.2.1 < M) (w : World) : Calls Tryz.prog 3 #[.int .i64 id, .agg (pnt P.1 P.2.1 P.2.2), .agg (pnt Q.1 Q.2.1 Q.2.2)] w fun e w' => e = .returned (.bool true) ∧ Gr w w' := by
  by_cases h : 1 ≤ id ∧ id ≤ 15
  · obtain ⟨k, rfl⟩ : ∃ k : Nat, id = (k : Int) := ⟨id.toNat, by omega⟩
    have h1 : 1 ≤ k := by omega
    have h2 : k ≤ 15 := by omega
    by_cases oP : onB k P.1 P.2.1 P.2.2 = true
    · by_cases oQ : onB k Q.1 Q.2.1 Q.2.2 = true
      · exact laffines_3 h1 h2 lP lQ oP oQ w
      · exact laffines_2 h1 h2 lP lQ oP (Bool.eq_false_iff.2 oQ) w
    · exact laffines_1 h1 h2 lP lQ (Bool.eq_false_iff.2 oP) w
  · exact laffines_0 id (by omega) P Q w

end Go.Proofs.YtlbkhhihkomahaaGreat
