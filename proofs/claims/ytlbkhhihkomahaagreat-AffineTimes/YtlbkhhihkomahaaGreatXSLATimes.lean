import Derived.Test.YtlbkhhihkomahaaGreatXSAU
import Derived.Test.YtlbkhhihkomahaaGreatXSRGet
namespace Go.Proofs.YtlbkhhihkomahaaGreat
open Go.RowKit
attribute [local go_sem ↓] loadNat_is loadArr_is loadWide_is loadArrW_is storeNat_is storeWide_is
attribute [local go_sem] loadNat loadArr loadWide loadArrW storeNat storeWide idxArr fold9 fold18 nw_size nw_elem pre_self pre_1 pre_2 pre_3 pre_4 pre_5 pre_6 pre_7 pre_8 pre_9 pre_10 pre_11 pre_12 pre_13 pre_14 pre_15 pre_16 pre_17 pre_18 pre_19 pre_20 pre_21 pre_22 pre_23 pre_24 pre_25 pre_26 pre_27 pre_28 pre_29 pre_30 pre_31 pre_32 pre_33 pre_34 pre_35 pre_36 pre_37 pre_38 pre_39 pre_40 gro_size gro_drew gro_drewN drew_gro drewN_gro gro_gro blk_gro frz_gro blk_drew frz_drew blk_drewN frz_drewN blk_alloc_at frz_alloc_at blk_alloc frz_alloc cell_gro frozen_gro cell_alloc_pre frozen_alloc_pre setCell_drewN alloc_drewN setBlk_drew setBlk_drewN setBlk_alloc_at setBlk_alloc setBlk_gro setCell_gro setCell_alloc_pre size_setBlk size_setCell
attribute [local go_sem] ppre_1 ppre_2 ppre_3 ppre_4 ppre_5 ppre_6
attribute [local go_sem ↓] bsl_is loadC_is storeC_is loadPt_is storePt_is zvPt_is buildPt_is loadPn_is storePn_is zvPn_is loadCu_is storeCu_is zvCu_is buildCu_is buildPn_is Go.wp_at_zero Go.wp_at_succ
attribute [local go_sem] loadC storeC0 storeCr crA_size loadPt storePt zvPt ptA_size loadPn storePn zvPn pnt_size loadCu storeCu zvCu cu_size buildCu0 buildPnI buildPn2 loadCP loadCA loadCB loadCN loadCG loadCX loadCY cu_P cu_A cu_B cu_N cu_G cu_X cu_Y frz_setBlk blk_setBlk setBlk_setBlk blk_other
set_option maxRecDepth 100000 in
set_option maxHeartbeats 1600000 in
theorem latimes_0 (id : Int) (h : id < 1 ∨ 15 < id) (t : Nat) (P : Q3) (w : World) : Calls Tryz.prog 4 #[.int .i64 id, .agg (nw 9 t), .agg (pnt P.1 P.2.1 P.2.2)] w fun e w' => e = .returned (.bool true) ∧ Gr w w' := by
  have HGR : Hid (∀ w, Calls Tryz.prog 12 #[.int .i64 id] w fun e w' => e = .returned (.tuple #[.agg #[.int .i64 0, .slice none 0 0, .slice none 0 0, .slice none 0 0, .slice none 0 0, .slice none 0 0, .slice none 0 0], .bool false]) ∧ Gr w w') := fun w => get_no id h w
  have HAW : Hid (∀ w, Calls Tryz.prog 16 #[] w fun e w' => e = .returned (.bool true) ∧ Gr w w') := fun w => awake14_any w
  go_enter Tryz.func4, Tryz.ntmps4
  go_upto_region 1 with fail
  refine gen_w (fun v => Hid (Gr w v ∧ Vr v (w.heap.size) (nw 9 t) ∧ Vr v (w.heap.size + 1) (pnt P.1 P.2.1 P.2.2))) ⟨(by repeat (first | exact Gr.refl _ | apply Gr.drewN | apply Gr.drew | apply Gr.alloc | apply Gr.gro)), ⟨by simp [go_sem], by simp [go_sem], by simp [go_sem]⟩, ⟨by simp [go_sem], by simp [go_sem], by simp [go_sem]⟩⟩ ?_
  intro u0 HV
  go_upto_region 2 with (go_at_call 12; refine (HGR.out _).mono ?_; rintro e WB ⟨rfl, GB⟩)
  obtain ⟨e7, he7⟩ : ∃ b, WB.heap.size = b := ⟨_, rfl⟩
  simp only [he7]
  refine gen_w (fun v => Gr w v ∧ Vr v (w.heap.size) (nw 9 t) ∧ Vr v (w.heap.size + 1) (pnt P.1 P.2.1 P.2.2)) ?_ ?_
  · subst he7
    obtain ⟨G, c0, c1⟩ := HV.out
    have g1 : Gr WB (WB.alloc (.cells (#[.int .i64 0, .slice none 0 0, .slice none 0 0, .slice none 0 0, .slice none 0 0, .slice none 0 0, .slice none 0 0]) 31)) := (Gr.refl _).alloc _
    exact ⟨(G.trans GB).trans g1, (c0.gr GB).gr g1, (c1.gr GB).gr g1⟩
  clear he7 GB HGR HV
  rintro v0 ⟨G, c0, c1⟩
  refine wp_v false [.c (.int .i64 id), .c (.agg (nw 9 t)), .c (.agg (pnt P.1 P.2.1 P.2.2)), .c (.tuple #[.agg (pnt 0 0 false), .int .i64 1400]), .c (.tuple #[.agg (pnt 0 0 false), .int .i64 1400]), .c (.agg (pnt 0 0 false)), .c (.int .i64 1400), .a, .u, .c (.int .i64 1400)] [1, 2, 3] [⟨7, 8, 27, pnt 0 0 false, fun _ => pnt 0 0 false⟩] ?hs30 ?hv30 ?hf30
  case hs30 =>
   refine .cons (.g 25 0 c0 rfl) ?_
   refine .cons (.g 27 0 c1 rfl) ?_
   refine .cons (.k _ fun yy vv hg hh => RtW.of_c (Rt.c (mul_no id h P t _))) .nil
  case hv30 =>
   refine .cons (.mk (fun _ _ _ => rfl) (fun _ v b H F => by dsimp only at H ⊢; simp [go_sem, exI, H, F]) zPnt ⟨fkc, fkc, fkc, fkc, fkc, fkc, fkc, fka, fku, fkc, trivial⟩) .nil
  intro yw2 v1 hg h2 hV2
  simp only [FW, putFrom, Act.put, List.setIfInBounds_toArray, List.set_cons_zero, List.set_cons_succ, wvals, kW, List.getD_cons_zero, List.getD_cons_succ, Kw.c, Kw.a, Kw.u]
  obtain ⟨⟨N2_7, V2_7⟩, -⟩ : (v0.heap.size ≤ (yw2 7 0).2 ∧ Vr v1 (yw2 7 0).2 (pnt 0 0 false)) ∧ True := hV2
  clear h2
  replace G := G.trans hg
  replace c0 := c0.gr hg
  replace c1 := c1.gr hg
  clear hg
  go_upto_region 3 with fail
  refine wp_wS [.c (.bool false), .c (.bool true), .c (.bool true)] [] ?hs31 ?hf31
  case hs31 => exact .nil
  intro yw3 v2 hg h3
  simp only [FW, putFrom, Act.put, List.setIfInBounds_toArray, List.set_cons_zero, List.set_cons_succ, wvals, kW, List.getD_cons_zero, List.getD_cons_succ, Kw.c]
  clear h3
  replace G := G.trans hg
  replace c0 := c0.gr hg
  replace c1 := c1.gr hg
  replace V2_7 := V2_7.gr hg
  clear hg
  go_upto_region 4 with fail
  refine wp_wS [.c (.int .i64 1400), .c (.int .i64 1400), .c (.bool true), .c (.bool true), .c (.agg (pnt 0 0 false)), .c (.agg (pnt 0 0 false)), .c (.bool true), .c (.bool true), .c (.bool true), .c (.bool true), .c (.bool true), .c (.bool true)] [1, 4, 6, 9] ?hs32 ?hf32
  case hs32 =>
   refine .cons (.k _ fun yy vv hg hh => RtW.of_c (Rt.same (num_any _ _))) ?_
   refine .cons (.g 27 0 V2_7 rfl) ?_
   refine .cons (.s (.binOp .eql 27 (.const (.agg (pnt 0 0 false))) (.const (.agg (pnt 0 0 false))) 27) rfl fun vv hg => by simp [go_sem, exI, eqPn, eqN_self]) ?_
   refine .cons (.k _ fun yy vv hg hh => RtW.of_c (Rt.c (HAW.out _))) .nil
  intro yw4 v3 hg h4
  simp only [FW, putFrom, Act.put, List.setIfInBounds_toArray, List.set_cons_zero, List.set_cons_succ, wvals, kW, List.getD_cons_zero, List.getD_cons_succ, Kw.c]
  clear h4
  replace G := G.trans hg
  replace c0 := c0.gr hg
  replace c1 := c1.gr hg
  replace V2_7 := V2_7.gr hg
  clear hg
  go_wp2_with fail
  go_ret
  exact ⟨rfl, G⟩
set_option maxRecDepth 100000 in
set_option maxHeartbeats 1600000 in
theorem latimes_1 {k : Nat} (h1 : 1 ≤ k) (h2 : k ≤ 15) (t : Nat) {P : Q3} (lP : P.1 < M ∧ P.2.1 < M) (oP : onB k P.1 P.2.1 P.2.2 = false) (w : World) : Calls Tryz.prog 4 #[.int .i64 (k : Int), .agg (nw 9 t), .agg (pnt P.1 P.2.1 P.2.2)] w fun e w' => e = .returned (.bool true) ∧ Gr w w' := by
  have HGR : Hid (∀ w, Calls Tryz.prog 12 #[.int .i64 (k : Int)] w (GetQ k w)) := fun w => getq_yes k h1 h2 w
  have HAW : Hid (∀ w, Calls Tryz.prog 16 #[] w fun e w' => e = .returned (.bool true) ∧ Gr w w') := fun w => awake14_any w
  go_enter Tryz.func4, Tryz.ntmps4
  go_upto_region 1 with fail
  refine gen_w (fun v => Hid (Gr w v ∧ Vr v (w.heap.size) (nw 9 t) ∧ Vr v (w.heap.size + 1) (pnt P.1 P.2.1 P.2.2))) ⟨(by repeat (first | exact Gr.refl _ | apply Gr.drewN | apply Gr.drew | apply Gr.alloc | apply Gr.gro)), ⟨by simp [go_sem], by simp [go_sem], by simp [go_sem]⟩, ⟨by simp [go_sem], by simp [go_sem], by simp [go_sem]⟩⟩ ?_
  intro u0 HV
  go_upto_region 2 with (go_at_call 12; refine (HGR.out _).mono ?_; rintro e WB ⟨qc, rfl, HQ, GB⟩)
  obtain ⟨e7, he7⟩ : ∃ b, WB.heap.size = b := ⟨_, rfl⟩
  simp only [he7]
  refine gen_w (fun v => Gr w v ∧ Vr v (w.heap.size) (nw 9 t) ∧ Vr v (w.heap.size + 1) (pnt P.1 P.2.1 P.2.2) ∧ Vr v e7 (crA (k : Int) (nN k) qc) ∧ ∀ j, Sl v (qc j).1 (nN k j)) ?_ ?_
  · subst he7
    obtain ⟨G, c0, c1⟩ := HV.out
    have g1 : Gr WB (WB.alloc (.cells (crA (k : Int) (nN k) qc) 31)) := (Gr.refl _).alloc _
    exact ⟨(G.trans GB).trans g1, (c0.gr GB).gr g1, (c1.gr GB).gr g1, Vr.new _ _ _, fun j => (HQ j).gr g1⟩
  clear he7 GB HGR HV HQ
  rintro v0 ⟨G, c0, c1, c7, HQ⟩
  refine wp_v false [.c (.int .i64 (k : Int)), .c (.agg (nw 9 t)), .c (.agg (pnt P.1 P.2.1 P.2.2)), .c (.tuple #[.agg (pnt 0 0 false), .int .i64 1401]), .c (.tuple #[.agg (pnt 0 0 false), .int .i64 1401]), .c (.agg (pnt 0 0 false)), .c (.int .i64 1401), .a, .u, .c (.int .i64 1401)] [1, 2, 3] [⟨7, 8, 27, pnt 0 0 false, fun _ => pnt 0 0 false⟩] ?hs33 ?hv33 ?hf33
  case hs33 =>
   refine .cons (.g 25 0 c0 rfl) ?_
   refine .cons (.g 27 0 c1 rfl) ?_
   refine .cons (.k _ fun yy vv hg hh => RtW.of_c (Rt.c (mul_off h1 h2 lP oP t _))) .nil
  case hv33 =>
   refine .cons (.mk (fun _ _ _ => rfl) (fun _ v b H F => by dsimp only at H ⊢; simp [go_sem, exI, H, F]) zPnt ⟨fkc, fkc, fkc, fkc, fkc, fkc, fkc, fka, fku, fkc, trivial⟩) .nil
  intro yw2 v1 hg h2 hV2
  simp only [FW, putFrom, Act.put, List.setIfInBounds_toArray, List.set_cons_zero, List.set_cons_succ, wvals, kW, List.getD_cons_zero, List.getD_cons_succ, Kw.c, Kw.a, Kw.u]
  obtain ⟨⟨N2_7, V2_7⟩, -⟩ : (v0.heap.size ≤ (yw2 7 0).2 ∧ Vr v1 (yw2 7 0).2 (pnt 0 0 false)) ∧ True := hV2
  clear h2
  replace G := G.trans hg
  replace c0 := c0.gr hg
  replace c1 := c1.gr hg
  replace c7 := c7.gr hg
  replace HQ := fun k => (HQ k).gr hg
  clear hg
  go_upto_region 3 with fail
  refine wp_wS [.c (.bool true), .c (.bool false), .c (.bool false)] [] ?hs34 ?hf34
  case hs34 => exact .nil
  intro yw3 v2 hg h3
  simp only [FW, putFrom, Act.put, List.setIfInBounds_toArray, List.set_cons_zero, List.set_cons_succ, wvals, kW, List.getD_cons_zero, List.getD_cons_succ, Kw.c]
  clear h3
  replace G := G.trans hg
  replace c0 := c0.gr hg
  replace c1 := c1.gr hg
  replace c7 := c7.gr hg
  replace V2_7 := V2_7.gr hg
  replace HQ := fun k => (HQ k).gr hg
  clear hg
  go_upto_region 5 with fail
  refine wp_w [.c (.agg (crA (k : Int) (nN k) qc)), .c (.agg (pnt P.1 P.2.1 P.2.2)), .pt (P.1) (P.2.1) P.2.2, .c (.bool false), .c (.bool true), .c (.bool true)] [0, 1, 2, 3] ?hs35 ?hf35
  case hs35 =>
   refine .cons (.g 31 0 c7 rfl) ?_
   refine .cons (.g 27 0 c1 rfl) ?_
   refine .cons (.k _ fun yy vv hg hh => RtW.of_pt (rin_any _ _ _ lP.1 lP.2 _)) ?_
   refine .cons (.k (fun yy => #[.agg (crA (k : Int) (nN k) qc), .agg (ptA (yy 2 0).1 (P.1) (yy 2 0).2 (yy 2 1).1 (P.2.1) (yy 2 1).2 P.2.2)]) fun yy vv hg hh => RtW.of_c (ron_is h1 h2 lP oP qc (fun j => (HQ j).gr hg) (hh 2 rfl).1 (hh 2 rfl).2)) .nil
  intro yw5 v3 hg h5
  simp only [FW, putFrom, Act.put, List.setIfInBounds_toArray, List.set_cons_zero, List.set_cons_succ, wvals, kW, List.getD_cons_zero, List.getD_cons_succ, Kw.c, Kw.pt]
  clear h5
  replace G := G.trans hg
  replace c0 := c0.gr hg
  replace c1 := c1.gr hg
  replace c7 := c7.gr hg
  replace V2_7 := V2_7.gr hg
  replace HQ := fun k => (HQ k).gr hg
  clear hg
  go_upto_region 6 with fail
  refine wp_wS [.c (.int .i64 1401), .c (.int .i64 1401), .c (.bool true), .c (.bool true), .c (.agg (pnt 0 0 false)), .c (.agg (pnt 0 0 false)), .c (.bool true), .c (.bool true), .c (.bool true), .c (.bool true), .c (.bool true), .c (.bool true)] [1, 4, 6, 9] ?hs36 ?hf36
  case hs36 =>
   refine .cons (.k _ fun yy vv hg hh => RtW.of_c (Rt.same (num_any _ _))) ?_
   refine .cons (.g 27 0 V2_7 rfl) ?_
   refine .cons (.s (.binOp .eql 27 (.const (.agg (pnt 0 0 false))) (.const (.agg (pnt 0 0 false))) 27) rfl fun vv hg => by simp [go_sem, exI, eqPn, eqN_self]) ?_
   refine .cons (.k _ fun yy vv hg hh => RtW.of_c (Rt.c (HAW.out _))) .nil
  intro yw6 v4 hg h6
  simp only [FW, putFrom, Act.put, List.setIfInBounds_toArray, List.set_cons_zero, List.set_cons_succ, wvals, kW, List.getD_cons_zero, List.getD_cons_succ, Kw.c]
  clear h6
  replace G := G.trans hg
  replace c0 := c0.gr hg
  replace c1 := c1.gr hg
  replace c7 := c7.gr hg
  replace V2_7 := V2_7.gr hg
  replace HQ := fun k => (HQ k).gr hg
  clear hg
  go_wp2_with fail
  go_ret
  exact ⟨rfl, G⟩
set_option maxRecDepth 100000 in
set_option maxHeartbeats 1600000 in
theorem latimes_2 {k : Nat} (h1 : 1 ≤ k) (h2 : k ≤ 15) (t : Nat) {P : Q3} (lP : P.1 < M ∧ P.2.1 < M) (ht : t < M) (oP : onB k P.1 P.2.1 P.2.2 = true) (w : World) : Calls Tryz.prog 4 #[.int .i64 (k : Int), .agg (nw 9 t), .agg (pnt P.1 P.2.1 P.2.2)] w fun e w' => e = .returned (.bool true) ∧ Gr w w' := by
  have HGR : Hid (∀ w, Calls Tryz.prog 12 #[.int .i64 (k : Int)] w (GetQ k w)) := fun w => getq_yes k h1 h2 w
  have HAW : Hid (∀ w, Calls Tryz.prog 16 #[] w fun e w' => e = .returned (.bool true) ∧ Gr w w') := fun w => awake14_any w
  obtain ⟨A, hA⟩ : ∃ Z, mlQ k t P = Z := ⟨_, rfl⟩
  have hd : dl t ≤ 400 := by have := dl_M t ht; omega
  go_enter Tryz.func4, Tryz.ntmps4
  go_upto_region 1 with fail
  refine gen_w (fun v => Hid (Gr w v ∧ Vr v (w.heap.size) (nw 9 t) ∧ Vr v (w.heap.size + 1) (pnt P.1 P.2.1 P.2.2))) ⟨(by repeat (first | exact Gr.refl _ | apply Gr.drewN | apply Gr.drew | apply Gr.alloc | apply Gr.gro)), ⟨by simp [go_sem], by simp [go_sem], by simp [go_sem]⟩, ⟨by simp [go_sem], by simp [go_sem], by simp [go_sem]⟩⟩ ?_
  intro u0 HV
  go_upto_region 2 with (go_at_call 12; refine (HGR.out _).mono ?_; rintro e WB ⟨qc, rfl, HQ, GB⟩)
  obtain ⟨e7, he7⟩ : ∃ b, WB.heap.size = b := ⟨_, rfl⟩
  simp only [he7]
  refine gen_w (fun v => Gr w v ∧ Vr v (w.heap.size) (nw 9 t) ∧ Vr v (w.heap.size + 1) (pnt P.1 P.2.1 P.2.2) ∧ Vr v e7 (crA (k : Int) (nN k) qc) ∧ ∀ j, Sl v (qc j).1 (nN k j)) ?_ ?_
  · subst he7
    obtain ⟨G, c0, c1⟩ := HV.out
    have g1 : Gr WB (WB.alloc (.cells (crA (k : Int) (nN k) qc) 31)) := (Gr.refl _).alloc _
    exact ⟨(G.trans GB).trans g1, (c0.gr GB).gr g1, (c1.gr GB).gr g1, Vr.new _ _ _, fun j => (HQ j).gr g1⟩
  clear he7 GB HGR HV HQ
  rintro v0 ⟨G, c0, c1, c7, HQ⟩
  refine wp_v false [.c (.int .i64 (k : Int)), .c (.agg (nw 9 t)), .c (.agg (pnt P.1 P.2.1 P.2.2)), .c (.tuple #[.agg (pnt A.1 A.2.1 A.2.2), .int .i64 0]), .c (.tuple #[.agg (pnt A.1 A.2.1 A.2.2), .int .i64 0]), .c (.agg (pnt A.1 A.2.1 A.2.2)), .c (.int .i64 0), .a, .u, .c (.int .i64 0)] [1, 2, 3] [⟨7, 8, 27, pnt 0 0 false, fun _ => pnt A.1 A.2.1 A.2.2⟩] ?hs37 ?hv37 ?hf37
  case hs37 =>
   refine .cons (.g 25 0 c0 rfl) ?_
   refine .cons (.g 27 0 c1 rfl) ?_
   refine .cons (.k _ fun yy vv hg hh => RtW.of_c (Rt.c (mulQ h1 h2 oP ht hA _))) .nil
  case hv37 =>
   refine .cons (.mk (fun _ _ _ => rfl) (fun _ v b H F => by dsimp only at H ⊢; simp [go_sem, exI, H, F]) zPnt ⟨fkc, fkc, fkc, fkc, fkc, fkc, fkc, fka, fku, fkc, trivial⟩) .nil
  intro yw2 v1 hg h2 hV2
  simp only [FW, putFrom, Act.put, List.setIfInBounds_toArray, List.set_cons_zero, List.set_cons_succ, wvals, kW, List.getD_cons_zero, List.getD_cons_succ, Kw.c, Kw.a, Kw.u]
  obtain ⟨⟨N2_7, V2_7⟩, -⟩ : (v0.heap.size ≤ (yw2 7 0).2 ∧ Vr v1 (yw2 7 0).2 (pnt A.1 A.2.1 A.2.2)) ∧ True := hV2
  clear h2
  replace G := G.trans hg
  replace c0 := c0.gr hg
  replace c1 := c1.gr hg
  replace c7 := c7.gr hg
  replace HQ := fun k => (HQ k).gr hg
  clear hg
  go_upto_region 3 with fail
  refine wp_wS [.c (.bool true), .c (.bool false), .c (.bool false)] [] ?hs38 ?hf38
  case hs38 => exact .nil
  intro yw3 v2 hg h3
  simp only [FW, putFrom, Act.put, List.setIfInBounds_toArray, List.set_cons_zero, List.set_cons_succ, wvals, kW, List.getD_cons_zero, List.getD_cons_succ, Kw.c]
  clear h3
  replace G := G.trans hg
  replace c0 := c0.gr hg
  replace c1 := c1.gr hg
  replace c7 := c7.gr hg
  replace V2_7 := V2_7.gr hg
  replace HQ := fun k => (HQ k).gr hg
  clear hg
  go_upto_region 5 with fail
  refine wp_w [.c (.agg (crA (k : Int) (nN k) qc)), .c (.agg (pnt P.1 P.2.1 P.2.2)), .pt (P.1) (P.2.1) P.2.2, .c (.bool true), .c (.bool false), .c (.bool false)] [0, 1, 2, 3] ?hs39 ?hf39
  case hs39 =>
   refine .cons (.g 31 0 c7 rfl) ?_
   refine .cons (.g 27 0 c1 rfl) ?_
   refine .cons (.k _ fun yy vv hg hh => RtW.of_pt (rin_any _ _ _ lP.1 lP.2 _)) ?_
   refine .cons (.k (fun yy => #[.agg (crA (k : Int) (nN k) qc), .agg (ptA (yy 2 0).1 (P.1) (yy 2 0).2 (yy 2 1).1 (P.2.1) (yy 2 1).2 P.2.2)]) fun yy vv hg hh => RtW.of_c (ron_is h1 h2 lP oP qc (fun j => (HQ j).gr hg) (hh 2 rfl).1 (hh 2 rfl).2)) .nil
  intro yw5 v3 hg h5
  simp only [FW, putFrom, Act.put, List.setIfInBounds_toArray, List.set_cons_zero, List.set_cons_succ, wvals, kW, List.getD_cons_zero, List.getD_cons_succ, Kw.c, Kw.pt]
  clear h5
  replace G := G.trans hg
  replace c0 := c0.gr hg
  replace c1 := c1.gr hg
  replace c7 := c7.gr hg
  replace V2_7 := V2_7.gr hg
  replace HQ := fun k => (HQ k).gr hg
  clear hg
  go_upto_region 7 with fail
  refine wp_w [.c (.int .i64 0), .c (.int .i64 0), .c (.bool true), .c (.bool true), .c (.agg (pnt A.1 A.2.1 A.2.2)), .c (.agg (crA (k : Int) (nN k) qc)), .c (.agg (nw 9 t)), .n (t), .c (.agg (pnt P.1 P.2.1 P.2.2)), .pt (P.1) (P.2.1) P.2.2, .pt (A.1) (A.2.1) A.2.2, .c (.agg (pnt A.1 A.2.1 A.2.2)), .c (.bool true), .c (.bool true), .c (.bool true), .c (.bool true), .c (.bool true), .c (.bool true)] [1, 4, 5, 6, 7, 8, 9, 10, 11, 12, 15] ?hs40 ?hf40
  case hs40 =>
   refine .cons (.k _ fun yy vv hg hh => RtW.of_c (Rt.same (num_any _ _))) ?_
   refine .cons (.g 27 0 V2_7 rfl) ?_
   refine .cons (.g 31 0 c7 rfl) ?_
   refine .cons (.g 25 0 c0 rfl) ?_
   refine .cons (.k _ fun yy vv hg hh => RtW.of_n (fm_any ht)) ?_
   refine .cons (.g 27 0 c1 rfl) ?_
   refine .cons (.k _ fun yy vv hg hh => RtW.of_pt (rin_any _ _ _ lP.1 lP.2 _)) ?_
   refine .cons (.k (fun yy => #[.agg (crA (k : Int) (nN k) qc), .slice (yy 7 0).1 (dl (t)) (yy 7 0).2, .agg (ptA (yy 9 0).1 (P.1) (yy 9 0).2 (yy 9 1).1 (P.2.1) (yy 9 1).2 P.2.2)]) fun yy vv hg hh => RtW.of_pt (hA ▸ rtimesQ k h1 h2 qc oP hd (fun j => (HQ j).gr hg) (hh 7 rfl) (hh 9 rfl).1 (hh 9 rfl).2)) ?_
   refine .cons (.k (fun yy => #[.agg (ptA (yy 10 0).1 (A.1) (yy 10 0).2 (yy 10 1).1 (A.2.1) (yy 10 1).2 A.2.2)]) fun yy vv hg hh => RtW.of_c (Rt.c (rout_any _ _ _ _ _ _ _ _ (hh 10 rfl).1 (hh 10 rfl).2))) ?_
   refine .cons (.s (.binOp .eql 27 (.const (.agg (pnt A.1 A.2.1 A.2.2))) (.const (.agg (pnt A.1 A.2.1 A.2.2))) 27) rfl fun vv hg => by simp [go_sem, exI, eqPn, eqN_self]) ?_
   refine .cons (.k _ fun yy vv hg hh => RtW.of_c (Rt.c (HAW.out _))) .nil
  intro yw7 v4 hg h7
  simp only [FW, putFrom, Act.put, List.setIfInBounds_toArray, List.set_cons_zero, List.set_cons_succ, wvals, kW, List.getD_cons_zero, List.getD_cons_succ, Kw.c, Kw.n, Kw.pt]
  clear h7
  replace G := G.trans hg
  replace c0 := c0.gr hg
  replace c1 := c1.gr hg
  replace c7 := c7.gr hg
  replace V2_7 := V2_7.gr hg
  replace HQ := fun k => (HQ k).gr hg
  clear hg
  go_wp2_with fail
  go_ret
  exact ⟨rfl, G⟩
theorem latimes_any (id : Int) (t : Nat) (ht : t < M) (P : Q3) (lP : P.1 < M ∧ P.2.1 < M) (w : World) : Calls Tryz.prog 4 #[.int .i64 id, .agg (nw 9 t), .agg (pnt P.1 P.2.1 P.2.2)] w fun e w' => e = .returned (.bool true) ∧ Gr w w' := by
  by_cases h : 1 ≤ id ∧ id ≤ 15
  · obtain ⟨k, rfl⟩ : ∃ k : Nat, id = (k : Int) := ⟨id.toNat, by omega⟩
    have h1 : 1 ≤ k := by omega
    have h2 : k ≤ 15 := by omega
    by_cases oP : onB k P.1 P.2.1 P.2.2 = true
    · exact latimes_2 h1 h2 t lP ht oP w
    · exact latimes_1 h1 h2 t lP (Bool.eq_false_iff.2 oP) w
  · exact latimes_0 id (by omega) t P w

end Go.Proofs.YtlbkhhihkomahaaGreat
