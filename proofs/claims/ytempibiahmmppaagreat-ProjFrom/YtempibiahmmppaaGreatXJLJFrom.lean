import Derived.Test.YtempibiahmmppaaGreatXJJH
import Derived.Test.YtempibiahmmppaaGreatXJCC
namespace Go.Proofs.YtempibiahmmppaaGreat
open Go.RowKit
set_option maxRecDepth 100000
set_option maxHeartbeats 8000000
section
theorem ron_is {k : Nat} (h1 : 1 ≤ k) (h2 : k ≤ 15) {P : Q3} {r : Bool} (lP : P.1 < M ∧ P.2.1 < M) (h : onB k P.1 P.2.1 P.2.2 = r) (qc : Nat → Option Addr × Nat) {p q : Option Addr} {n m : Nat} {w : World} (HQ : ∀ j, Sl w (qc j).1 (nN k j)) (Sx : Sl w p P.1) (Sy : Sl w q P.2.1) :
   Calls Tryz.prog 20 #[.agg (crA (k : Int) (nN k) qc), .agg (ptA p P.1 n q P.2.1 m P.2.2)] w (Rt (.c (.bool r)) w) := by
 subst h
 exact ron_any k h1 h2 _ _ _ lP.1 lP.2 qc p q n m w HQ Sx Sy
end
section
attribute [local go_sem ↓] loadNat_is loadArr_is loadWide_is loadArrW_is storeNat_is storeWide_is
attribute [local go_sem] loadNat loadArr loadWide loadArrW storeNat storeWide idxArr fold9 fold18 nw_size nw_elem pre_self pre_1 pre_2 pre_3 pre_4 pre_5 pre_6 pre_7 pre_8 pre_9 pre_10 pre_11 pre_12 pre_13 pre_14 pre_15 pre_16 pre_17 pre_18 pre_19 pre_20 pre_21 pre_22 pre_23 pre_24 pre_25 pre_26 pre_27 pre_28 pre_29 pre_30 pre_31 pre_32 pre_33 pre_34 pre_35 pre_36 pre_37 pre_38 pre_39 pre_40 gro_size gro_drew gro_drewN drew_gro drewN_gro gro_gro blk_gro frz_gro blk_drew frz_drew blk_drewN frz_drewN blk_alloc_at frz_alloc_at blk_alloc frz_alloc cell_gro frozen_gro cell_alloc_pre frozen_alloc_pre setCell_drewN alloc_drewN setBlk_drew setBlk_drewN setBlk_alloc_at setBlk_alloc setBlk_gro setCell_gro setCell_alloc_pre size_setBlk size_setCell
section
attribute [local go_sem] ppre_1 ppre_2 ppre_3 ppre_4 ppre_5 ppre_6
attribute [local go_sem ↓] bsl_is loadC_is storeC_is loadPt_is storePt_is zvPt_is buildPt_is loadPn_is storePn_is zvPn_is loadCu_is storeCu_is zvCu_is buildCu_is buildPn_is Go.wp_at_zero Go.wp_at_succ
attribute [local go_sem] loadC storeC0 storeCr crA_size loadPt storePt zvPt ptA_size loadPn storePn zvPn pnt_size loadCu storeCu zvCu cu_size buildCu0 buildPnI buildPn2 loadCP loadCA loadCB loadCN loadCG loadCX loadCY cu_P cu_A cu_B cu_N cu_G cu_X cu_Y frz_setBlk blk_setBlk setBlk_setBlk blk_other
attribute [local go_sem ↓] loadPj_is storePj_is zvPj_is buildPj_is
attribute [local go_sem] loadPj storePj zvPj buildPj0 buildPj1 buildPj2 buildPj3 loadJX loadJY loadJZ prj_size prj_X prj_Y prj_Z
theorem ljfrom_0 (id : Int) (h : id < 1 ∨ 15 < id) (P : Q3) (w : World) : Cg 4 #[.int .i64 id, .agg (pnt P.1 P.2.1 P.2.2)] w (.bool true) := by
 have HGR : Hid (∀ w, Cg 10 #[.int .i64 id] w (.tuple #[.agg #[.int .i64 0, .slice none 0 0, .slice none 0 0, .slice none 0 0, .slice none 0 0, .slice none 0 0, .slice none 0 0], .bool false])) := fun w => get_no id h w
 have HAW : Hid (∀ w, Cg 15 #[] w (.bool true)) := fun w => awake15_any w
 go_enter Tryz.func4, Tryz.ntmps4
 go_upto_region 1 with fail
 refine gen_w (fun v => Hid (Gr w v ∧ Vr v (w.heap.size) (pnt P.1 P.2.1 P.2.2))) ⟨grA, vrA⟩ ?_
 intro u0 HV
 go_upto_region 2 with (go_at_call 10; refine (HGR.out _).mono ?_; rintro e WB ⟨rfl, GB⟩)
 obtain ⟨e7, he7⟩ : ∃ b, WB.heap.size = b := ⟨_, rfl⟩
 simp only [he7]
 refine gen_w (fun v => Gr w v ∧ Vr v (w.heap.size) (pnt P.1 P.2.1 P.2.2)) ?_ ?_
 · subst he7
   obtain ⟨G, c0⟩ := HV.out
   have g1 : Gr WB (WB.alloc (.cells (#[.int .i64 0, .slice none 0 0, .slice none 0 0, .slice none 0 0, .slice none 0 0, .slice none 0 0, .slice none 0 0]) 31)) := (Gr.refl _).alloc _
   exact ⟨(G.trans GB).trans g1, (c0.gr GB).gr g1⟩
 clear he7 GB HGR HV
 rintro v0 ⟨G, c0⟩
 refine wp_v false [.c (.int .i64 id), .c (.agg (pnt P.1 P.2.1 P.2.2)), .c (.tuple #[.agg (prj 0 0 0), .int .i64 1500]), .c (.tuple #[.agg (prj 0 0 0), .int .i64 1500]), .c (.agg (prj 0 0 0)), .c (.int .i64 1500), .a, .u, .c (.int .i64 1500)] [1, 2] [⟨6, 7, 27, prj 0 0 0, fun _ => prj 0 0 0⟩] ?hs1 ?hv1 ?hf1
 case hs1 =>
  refine .cons (.g 35 0 c0 rfl) ?_
  refine .cons (.k _ fun yy vv hg hh => RtW.of_c (Rt.c (from_no id h P _))) .nil
 case hv1 =>
  refine .cons (.mk (fun _ _ _ => rfl) (fun _ v b H F => by dsimp only at H ⊢; simp [go_sem, exI, H, F]) zPj ⟨fkc, fkc, fkc, fkc, fkc, fkc, fka, fku, fkc, trivial⟩) .nil
 intro yw2 v1 hg h2 hV2
 simp only [FW, putFrom, Act.put, lqA, lqB, lqC, wvals, kW, lqD, lqE, Kw.c, Kw.a, Kw.u]
 obtain ⟨⟨N2_6, V2_6⟩, -⟩ : (v0.heap.size ≤ (yw2 6 0).2 ∧ Vr v1 (yw2 6 0).2 (prj 0 0 0)) ∧ True := hV2
 clear h2
 have g2 := hg
 clear hg
 go_upto_region 3 with fail
 refine wp_wS [.c (.bool false), .c (.bool true), .c (.bool true)] [] ?hs2 ?hf2
 case hs2 => exact .nil
 intro yw3 v2 hg h3
 simp only [FW, putFrom, Act.put, lqA, lqB, lqC, wvals, kW, lqD, lqE, Kw.c]
 clear h3
 replace g2 := g2.trans hg
 have g3 := hg
 clear hg
 go_upto_region 4 with fail
 refine wp_wS [.c (.int .i64 1500), .c (.int .i64 1500), .c (.bool true), .c (.bool true), .c (.agg (prj 0 0 0)), .c (.agg (prj 0 0 0)), .c (.bool true), .c (.bool true), .c (.bool true), .c (.bool true), .c (.bool true), .c (.bool true)] [1, 4, 6, 9] ?hs3 ?hf3
 case hs3 =>
  refine .cons (.k _ fun yy vv hg hh => RtW.of_c (Rt.same (num_any _ _))) ?_
  refine .cons (.g 27 0 (V2_6.gr g3) rfl) ?_
  refine .cons (.s (.binOp .eql 27 (.const (.agg (prj 0 0 0))) (.const (.agg (prj 0 0 0))) 27) rfl fun vv hg => by simp [go_sem, exI, eqPj, eqN_self]) ?_
  refine .cons (.k _ fun yy vv hg hh => RtW.of_c (Rt.c (HAW.out _))) .nil
 intro yw4 v3 hg h4
 simp only [FW, putFrom, Act.put, lqA, lqB, lqC, wvals, kW, lqD, lqE, Kw.c]
 clear h4
 replace g2 := g2.trans hg
 replace g3 := g3.trans hg
 clear hg
 replace G := G.trans g2
 replace c0 := c0.gr g2
 replace V2_6 := V2_6.gr g3
 clear g2 g3
 go_wp2_with fail
 go_ret
 exact ⟨rfl, G⟩
theorem ljfrom_1 {k : Nat} (h1 : 1 ≤ k) (h2 : k ≤ 15) {P : Q3} (lP : P.1 < M ∧ P.2.1 < M) (oP : onB k P.1 P.2.1 P.2.2 = false) (w : World) : Cg 4 #[.int .i64 (k : Int), .agg (pnt P.1 P.2.1 P.2.2)] w (.bool true) := by
 have HGR : Hid (∀ w, Calls Tryz.prog 10 #[.int .i64 (k : Int)] w (GetQ k w)) := fun w => getq_yes k h1 h2 w
 have HAW : Hid (∀ w, Cg 15 #[] w (.bool true)) := fun w => awake15_any w
 go_enter Tryz.func4, Tryz.ntmps4
 go_upto_region 1 with fail
 refine gen_w (fun v => Hid (Gr w v ∧ Vr v (w.heap.size) (pnt P.1 P.2.1 P.2.2))) ⟨grA, vrA⟩ ?_
 intro u0 HV
 go_upto_region 2 with (go_at_call 10; refine (HGR.out _).mono ?_; rintro e WB ⟨qc, rfl, HQ, GB⟩)
 obtain ⟨e7, he7⟩ : ∃ b, WB.heap.size = b := ⟨_, rfl⟩
 simp only [he7]
 refine gen_w (fun v => Gr w v ∧ Vr v (w.heap.size) (pnt P.1 P.2.1 P.2.2) ∧ Vr v e7 (crA (k : Int) (nN k) qc) ∧ ∀ j, Sl v (qc j).1 (nN k j)) ?_ ?_
 · subst he7
   obtain ⟨G, c0⟩ := HV.out
   have g1 : Gr WB (WB.alloc (.cells (crA (k : Int) (nN k) qc) 31)) := (Gr.refl _).alloc _
   exact ⟨(G.trans GB).trans g1, (c0.gr GB).gr g1, Vr.new _ _ _, fun j => (HQ j).gr g1⟩
 clear he7 GB HGR HV HQ
 rintro v0 ⟨G, c0, c7, HQ⟩
 refine wp_v false [.c (.int .i64 (k : Int)), .c (.agg (pnt P.1 P.2.1 P.2.2)), .c (.tuple #[.agg (prj 0 0 0), .int .i64 1501]), .c (.tuple #[.agg (prj 0 0 0), .int .i64 1501]), .c (.agg (prj 0 0 0)), .c (.int .i64 1501), .a, .u, .c (.int .i64 1501)] [1, 2] [⟨6, 7, 27, prj 0 0 0, fun _ => prj 0 0 0⟩] ?hs4 ?hv4 ?hf4
 case hs4 =>
  refine .cons (.g 35 0 c0 rfl) ?_
  refine .cons (.k _ fun yy vv hg hh => RtW.of_c (Rt.c (from_off h1 h2 lP oP _))) .nil
 case hv4 =>
  refine .cons (.mk (fun _ _ _ => rfl) (fun _ v b H F => by dsimp only at H ⊢; simp [go_sem, exI, H, F]) zPj ⟨fkc, fkc, fkc, fkc, fkc, fkc, fka, fku, fkc, trivial⟩) .nil
 intro yw2 v1 hg h2 hV2
 simp only [FW, putFrom, Act.put, lqA, lqB, lqC, wvals, kW, lqD, lqE, Kw.c, Kw.a, Kw.u]
 obtain ⟨⟨N2_6, V2_6⟩, -⟩ : (v0.heap.size ≤ (yw2 6 0).2 ∧ Vr v1 (yw2 6 0).2 (prj 0 0 0)) ∧ True := hV2
 clear h2
 have g2 := hg
 clear hg
 go_upto_region 3 with fail
 refine wp_wS [.c (.bool true), .c (.bool false), .c (.bool false)] [] ?hs5 ?hf5
 case hs5 => exact .nil
 intro yw3 v2 hg h3
 simp only [FW, putFrom, Act.put, lqA, lqB, lqC, wvals, kW, lqD, lqE, Kw.c]
 clear h3
 replace g2 := g2.trans hg
 have g3 := hg
 clear hg
 go_upto_region 5 with fail
 refine wp_w [.c (.agg (crA (k : Int) (nN k) qc)), .c (.agg (pnt P.1 P.2.1 P.2.2)), .pt (P.1) (P.2.1) P.2.2, .c (.bool false), .c (.bool true), .c (.bool true)] [0, 1, 2, 3] ?hs6 ?hf6
 case hs6 =>
  refine .cons (.g 31 0 (c7.gr g2) rfl) ?_
  refine .cons (.g 35 0 (c0.gr g2) rfl) ?_
  refine .cons (.k _ fun yy vv hg hh => RtW.of_pt (rin_any _ _ _ lP.1 lP.2 _)) ?_
  refine .cons (.k (fun yy => #[.agg (crA (k : Int) (nN k) qc), .agg (ptA (yy 2 0).1 (P.1) (yy 2 0).2 (yy 2 1).1 (P.2.1) (yy 2 1).2 P.2.2)]) fun yy vv hg hh => RtW.of_c (ron_is h1 h2 lP oP qc (fun j => (HQ j).gr (g2.trans hg)) (hh 2 rfl).1 (hh 2 rfl).2)) .nil
 intro yw5 v3 hg h5
 simp only [FW, putFrom, Act.put, lqA, lqB, lqC, wvals, kW, lqD, lqE, Kw.c, Kw.pt]
 clear h5
 replace g2 := g2.trans hg
 replace g3 := g3.trans hg
 clear hg
 go_upto_region 6 with fail
 refine wp_wS [.c (.int .i64 1501), .c (.int .i64 1501), .c (.bool true), .c (.bool true), .c (.agg (prj 0 0 0)), .c (.agg (prj 0 0 0)), .c (.bool true), .c (.bool true), .c (.bool true), .c (.bool true), .c (.bool true), .c (.bool true)] [1, 4, 6, 9] ?hs7 ?hf7
 case hs7 =>
  refine .cons (.k _ fun yy vv hg hh => RtW.of_c (Rt.same (num_any _ _))) ?_
  refine .cons (.g 27 0 (V2_6.gr g3) rfl) ?_
  refine .cons (.s (.binOp .eql 27 (.const (.agg (prj 0 0 0))) (.const (.agg (prj 0 0 0))) 27) rfl fun vv hg => by simp [go_sem, exI, eqPj, eqN_self]) ?_
  refine .cons (.k _ fun yy vv hg hh => RtW.of_c (Rt.c (HAW.out _))) .nil
 intro yw6 v4 hg h6
 simp only [FW, putFrom, Act.put, lqA, lqB, lqC, wvals, kW, lqD, lqE, Kw.c]
 clear h6
 replace g2 := g2.trans hg
 replace g3 := g3.trans hg
 clear hg
 replace G := G.trans g2
 replace c0 := c0.gr g2
 replace c7 := c7.gr g2
 replace HQ := fun k => (HQ k).gr g2
 replace V2_6 := V2_6.gr g3
 clear g2 g3
 go_wp2_with fail
 go_ret
 exact ⟨rfl, G⟩
theorem ljfrom_2 {k : Nat} (h1 : 1 ≤ k) (h2 : k ≤ 15) {P : Q3} (lP : P.1 < M ∧ P.2.1 < M) (oP : onB k P.1 P.2.1 P.2.2 = true) (w : World) : Cg 4 #[.int .i64 (k : Int), .agg (pnt P.1 P.2.1 P.2.2)] w (.bool true) := by
 have HGR : Hid (∀ w, Calls Tryz.prog 10 #[.int .i64 (k : Int)] w (GetQ k w)) := fun w => getq_yes k h1 h2 w
 have HAW : Hid (∀ w, Cg 15 #[] w (.bool true)) := fun w => awake15_any w
 obtain ⟨T, hT⟩ : ∃ Z, frT P = Z := ⟨_, rfl⟩
 have trT : TrQ k T P := hT ▸ frT_tr h1 h2 oP
 go_enter Tryz.func4, Tryz.ntmps4
 go_upto_region 1 with fail
 refine gen_w (fun v => Hid (Gr w v ∧ Vr v (w.heap.size) (pnt P.1 P.2.1 P.2.2))) ⟨grA, vrA⟩ ?_
 intro u0 HV
 go_upto_region 2 with (go_at_call 10; refine (HGR.out _).mono ?_; rintro e WB ⟨qc, rfl, HQ, GB⟩)
 obtain ⟨e7, he7⟩ : ∃ b, WB.heap.size = b := ⟨_, rfl⟩
 simp only [he7]
 refine gen_w (fun v => Gr w v ∧ Vr v (w.heap.size) (pnt P.1 P.2.1 P.2.2) ∧ Vr v e7 (crA (k : Int) (nN k) qc) ∧ ∀ j, Sl v (qc j).1 (nN k j)) ?_ ?_
 · subst he7
   obtain ⟨G, c0⟩ := HV.out
   have g1 : Gr WB (WB.alloc (.cells (crA (k : Int) (nN k) qc) 31)) := (Gr.refl _).alloc _
   exact ⟨(G.trans GB).trans g1, (c0.gr GB).gr g1, Vr.new _ _ _, fun j => (HQ j).gr g1⟩
 clear he7 GB HGR HV HQ
 rintro v0 ⟨G, c0, c7, HQ⟩
 refine wp_v false [.c (.int .i64 (k : Int)), .c (.agg (pnt P.1 P.2.1 P.2.2)), .c (.tuple #[.agg (prj T.1 T.2.1 T.2.2), .int .i64 0]), .c (.tuple #[.agg (prj T.1 T.2.1 T.2.2), .int .i64 0]), .c (.agg (prj T.1 T.2.1 T.2.2)), .c (.int .i64 0), .a, .u, .c (.int .i64 0)] [1, 2] [⟨6, 7, 27, prj 0 0 0, fun _ => prj T.1 T.2.1 T.2.2⟩] ?hs8 ?hv8 ?hf8
 case hs8 =>
  refine .cons (.g 35 0 c0 rfl) ?_
  refine .cons (.k _ fun yy vv hg hh => RtW.of_c (Rt.c (fromQ h1 h2 oP hT _))) .nil
 case hv8 =>
  refine .cons (.mk (fun _ _ _ => rfl) (fun _ v b H F => by dsimp only at H ⊢; simp [go_sem, exI, H, F]) zPj ⟨fkc, fkc, fkc, fkc, fkc, fkc, fka, fku, fkc, trivial⟩) .nil
 intro yw2 v1 hg h2 hV2
 simp only [FW, putFrom, Act.put, lqA, lqB, lqC, wvals, kW, lqD, lqE, Kw.c, Kw.a, Kw.u]
 obtain ⟨⟨N2_6, V2_6⟩, -⟩ : (v0.heap.size ≤ (yw2 6 0).2 ∧ Vr v1 (yw2 6 0).2 (prj T.1 T.2.1 T.2.2)) ∧ True := hV2
 clear h2
 have g2 := hg
 clear hg
 go_upto_region 3 with fail
 refine wp_wS [.c (.bool true), .c (.bool false), .c (.bool false)] [] ?hs9 ?hf9
 case hs9 => exact .nil
 intro yw3 v2 hg h3
 simp only [FW, putFrom, Act.put, lqA, lqB, lqC, wvals, kW, lqD, lqE, Kw.c]
 clear h3
 replace g2 := g2.trans hg
 have g3 := hg
 clear hg
 go_upto_region 5 with fail
 refine wp_w [.c (.agg (crA (k : Int) (nN k) qc)), .c (.agg (pnt P.1 P.2.1 P.2.2)), .pt (P.1) (P.2.1) P.2.2, .c (.bool true), .c (.bool false), .c (.bool false)] [0, 1, 2, 3] ?hs10 ?hf10
 case hs10 =>
  refine .cons (.g 31 0 (c7.gr g2) rfl) ?_
  refine .cons (.g 35 0 (c0.gr g2) rfl) ?_
  refine .cons (.k _ fun yy vv hg hh => RtW.of_pt (rin_any _ _ _ lP.1 lP.2 _)) ?_
  refine .cons (.k (fun yy => #[.agg (crA (k : Int) (nN k) qc), .agg (ptA (yy 2 0).1 (P.1) (yy 2 0).2 (yy 2 1).1 (P.2.1) (yy 2 1).2 P.2.2)]) fun yy vv hg hh => RtW.of_c (ron_is h1 h2 lP oP qc (fun j => (HQ j).gr (g2.trans hg)) (hh 2 rfl).1 (hh 2 rfl).2)) .nil
 intro yw5 v3 hg h5
 simp only [FW, putFrom, Act.put, lqA, lqB, lqC, wvals, kW, lqD, lqE, Kw.c, Kw.pt]
 clear h5
 replace g2 := g2.trans hg
 replace g3 := g3.trans hg
 clear hg
 go_upto_region 7 with fail
 refine wp_v false [.c (.int .i64 (k : Int)), .c (.agg (prj T.1 T.2.1 T.2.2)), .c (.tuple #[.agg (pnt P.1 P.2.1 P.2.2), .int .i64 0]), .c (.tuple #[.agg (pnt P.1 P.2.1 P.2.2), .int .i64 0]), .c (.agg (pnt P.1 P.2.1 P.2.2)), .c (.int .i64 0), .a, .u, .c (.int .i64 0)] [1, 2] [⟨6, 7, 35, pnt 0 0 false, fun _ => pnt P.1 P.2.1 P.2.2⟩] ?hs11 ?hv11 ?hf11
 case hs11 =>
  refine .cons (.g 27 0 (V2_6.gr g3) rfl) ?_
  refine .cons (.k _ fun yy vv hg hh => RtW.of_c (Rt.c (toQ h1 h2 trT _))) .nil
 case hv11 =>
  refine .cons (.mk (fun _ _ _ => rfl) (fun _ v b H F => by dsimp only at H ⊢; simp [go_sem, exI, H, F]) zPnt ⟨fkc, fkc, fkc, fkc, fkc, fkc, fka, fku, fkc, trivial⟩) .nil
 intro yw7 v4 hg h7 hV7
 simp only [FW, putFrom, Act.put, lqA, lqB, lqC, wvals, kW, lqD, lqE, Kw.c, Kw.a, Kw.u]
 obtain ⟨⟨N7_6, V7_6⟩, -⟩ : (v3.heap.size ≤ (yw7 6 0).2 ∧ Vr v4 (yw7 6 0).2 (pnt P.1 P.2.1 P.2.2)) ∧ True := hV7
 clear h7
 replace g2 := g2.trans hg
 replace g3 := g3.trans hg
 clear hg
 go_upto_region 8 with fail
 refine wp_wS [.c (.int .i64 0), .c (.int .i64 0), .c (.bool true), .c (.bool true), .c (.int .i64 0), .c (.int .i64 0), .c (.bool true), .c (.bool true), .c (.bool true), .c (.agg (pnt P.1 P.2.1 P.2.2)), .c (.agg (pnt P.1 P.2.1 P.2.2)), .c (.bool true), .c (.bool true), .c (.bool true), .c (.bool true), .c (.bool true), .c (.bool true)] [1, 5, 9, 10, 11, 14] ?hs12 ?hf12
 case hs12 =>
  refine .cons (.k _ fun yy vv hg hh => RtW.of_c (Rt.same (num_any _ _))) ?_
  refine .cons (.k _ fun yy vv hg hh => RtW.of_c (Rt.same (num_any _ _))) ?_
  refine .cons (.g 35 0 V7_6 rfl) ?_
  refine .cons (.g 35 0 (c0.gr g2) rfl) ?_
  refine .cons (.s (.binOp .eql 35 (.const (.agg (pnt P.1 P.2.1 P.2.2))) (.const (.agg (pnt P.1 P.2.1 P.2.2))) 35) rfl fun vv hg => by simp [go_sem, exI, eqPn, eqN_self]) ?_
  refine .cons (.k _ fun yy vv hg hh => RtW.of_c (Rt.c (HAW.out _))) .nil
 intro yw8 v5 hg h8
 simp only [FW, putFrom, Act.put, lqA, lqB, lqC, wvals, kW, lqD, lqE, Kw.c]
 clear h8
 replace g2 := g2.trans hg
 replace g3 := g3.trans hg
 have g8 := hg
 clear hg
 replace G := G.trans g2
 replace c0 := c0.gr g2
 replace c7 := c7.gr g2
 replace HQ := fun k => (HQ k).gr g2
 replace V2_6 := V2_6.gr g3
 replace V7_6 := V7_6.gr g8
 clear g2 g3 g8
 go_wp2_with fail
 go_ret
 exact ⟨rfl, G⟩
theorem ljfrom_any (id : Int) (P : Q3) (lP : P.1 < M ∧ P.2.1 < M) (w : World) : Cg 4 #[.int .i64 id, .agg (pnt P.1 P.2.1 P.2.2)] w (.bool true) := by
 by_cases h : 1 ≤ id ∧ id ≤ 15
 · obtain ⟨k, rfl⟩ : ∃ k : Nat, id = (k : Int) := ⟨id.toNat, by omega⟩
   have h1 : 1 ≤ k := by omega
   have h2 : k ≤ 15 := by omega
   by_cases oP : onB k P.1 P.2.1 P.2.2 = true
   · exact ljfrom_2 h1 h2 lP oP w
   · exact ljfrom_1 h1 h2 lP (Bool.eq_false_iff.2 oP) w
 · exact ljfrom_0 id (by omega) P w
end
end
end Go.Proofs.YtempibiahmmppaaGreat
