import Derived.Test.YtlbkhhihkomahaaGreatXSAL
import Derived.Test.YtlbkhhihkomahaaGreatXSLawA
import Derived.Test.YtlbkhhihkomahaaGreatXSRGet
namespace Go.Proofs.YtlbkhhihkomahaaGreat
open Go.RowKit
theorem neNat (x y : Nat) (w : World) : (binOp .neq 25 (.agg (nw 9 x)) (.agg (nw 9 y))).run Tryz.prog w = .ok (.bool (!(eqN 9 x y))) w := by
  rw [run_neq_struct, show (10000 : Nat) = 9997 + 3 from rfl, eqNatIn]
  rfl
theorem nePn (x y : Nat) (f : Bool) (x' y' : Nat) (f' : Bool) (w : World) : (binOp .neq 27 (.agg (pnt x y f)) (.agg (pnt x' y' f'))).run Tryz.prog w = .ok (.bool (!(eqN 9 x x' && (eqN 9 y y' && (f == f'))))) w := by
  rw [run_neq_struct, show (10000 : Nat) = 9996 + 4 from rfl, eqPnIn]
  rfl
theorem storePY (w : World) (b q : Nat) (hs : (blk w b).size = 19) (hf : frz w b = (0, 0)) : (storeS 25 (.pointer (some ⟨b, 9, none⟩)) (.agg (nw 9 q))).run Tryz.prog w = .ok () (setBlk w b (setL (blk w b) 9 (nw 9 q).toList)) := by
  have ht : w.there b 9 (nw 9 q).size := fun j hj => by
    rw [nw_size] at hj
    exact ⟨by rw [cell_blk, Array.getElem?_eq_getElem (by omega)]; rfl, frz_at w b _ hf⟩
  simp only [storeS, Instr.storeAt, Instr.sureAddr, Sem.run_bind, Sem.run_pure, Result.andThen_ok]
  rw [run_storeVar_mid w b 9 25 (nw 9 q) ht (by kernel_rfl) (nw_one 9 q), setCells_setBlk _ _ _ _ (by omega)]
theorem pnt_setY (x y q : Nat) (f : Bool) : setL (pnt x y f) 9 (nw 9 q).toList = pnt x q f := by kernel_rfl
theorem buildN0 (w : World) : (buildF 25 #[]).run Tryz.prog w = .ok (.agg (nw 9 0)) w := by kernel_rfl
theorem buildN_is (p : Array (Nat × Value)) : Instr.build 25 p = buildF 25 p := rfl
attribute [local go_sem ↓] loadNat_is loadArr_is loadWide_is loadArrW_is storeNat_is storeWide_is
attribute [local go_sem] loadNat loadArr loadWide loadArrW storeNat storeWide idxArr fold9 fold18 nw_size nw_elem pre_self pre_1 pre_2 pre_3 pre_4 pre_5 pre_6 pre_7 pre_8 pre_9 pre_10 pre_11 pre_12 pre_13 pre_14 pre_15 pre_16 pre_17 pre_18 pre_19 pre_20 pre_21 pre_22 pre_23 pre_24 pre_25 pre_26 pre_27 pre_28 pre_29 pre_30 pre_31 pre_32 pre_33 pre_34 pre_35 pre_36 pre_37 pre_38 pre_39 pre_40 gro_size gro_drew gro_drewN drew_gro drewN_gro gro_gro blk_gro frz_gro blk_drew frz_drew blk_drewN frz_drewN blk_alloc_at frz_alloc_at blk_alloc frz_alloc cell_gro frozen_gro cell_alloc_pre frozen_alloc_pre setCell_drewN alloc_drewN setBlk_drew setBlk_drewN setBlk_alloc_at setBlk_alloc setBlk_gro setCell_gro setCell_alloc_pre size_setBlk size_setCell
attribute [local go_sem] ppre_1 ppre_2 ppre_3 ppre_4 ppre_5 ppre_6
attribute [local go_sem ↓] loadGp_is storeGp_is zvGp_is buildGp_is storeTA_is storeTB_is buildTA_is buildTB_is zvCu_is storeCu_is loadCu_is loadPn_is storePn_is zvPn_is buildCu_is buildPn_is Go.wp_at_zero Go.wp_at_succ
attribute [local go_sem] loadGp storeGp zvGp buildGp0 buildGp1 buildPn0 storeTA storeTB buildTA buildTB tabA_size tabB_size zvCu storeCu loadCu loadPn storePn zvPn loadCP loadCA loadPX loadPY buildPnI buildPn2 cu_size cu_P cu_A pnt_size pnt_X pnt_Y frz_setBlk blk_setBlk setBlk_setBlk blk_other
set_option maxRecDepth 100000 in
set_option maxHeartbeats 800000 in
theorem rel_0 (x1 y1 x2 y2 : Nat) (f2 : Bool) (w : World) :
    Calls Tryz.prog 56 #[.agg (pnt x1 y1 true), .agg (pnt x2 y2 f2)] w fun e w' => e = .returned (.int .i64 0) ∧ Gr w w' := by
  go_enter Tryz.func56, Tryz.ntmps56
  go_upto_region 1 with fail
  refine gen_w (fun v => Hid (Gr w v ∧ Vr v (w.heap.size) (pnt x1 y1 true) ∧ Vr v (w.heap.size + 1) (pnt x2 y2 f2))) ⟨(by repeat (first | exact Gr.refl _ | apply Gr.drewN | apply Gr.drew | apply Gr.alloc | apply Gr.gro)), ⟨by simp [go_sem], by simp [go_sem], by simp [go_sem]⟩, ⟨by simp [go_sem], by simp [go_sem], by simp [go_sem]⟩⟩ ?_
  intro v0 HV
  obtain ⟨G, c0, c1⟩ := HV.out
  clear HV
  refine wp_wS [.c (pv (w.heap.size) 18), .c (.bool true), .c (.bool true)] [1] ?hs1 ?hf1
  case hs1 =>
   refine .cons (.o 4 18 c0 rfl (by exact pnt_18 _ _ _)) .nil
  intro yw1 v1 hg h1
  simp only [FW, putFrom, Act.put, List.setIfInBounds_toArray, List.set_cons_zero, List.set_cons_succ, wvals, kW, List.getD_cons_zero, List.getD_cons_succ, Kw.c, pv]
  clear h1
  replace G := G.trans hg
  replace c0 := c0.gr hg
  replace c1 := c1.gr hg
  clear hg
  go_wp2_with fail
  go_ret
  exact ⟨rfl, G⟩
set_option maxRecDepth 100000 in
set_option maxHeartbeats 800000 in
theorem rel_1 (x1 y1 x2 y2 : Nat) (w : World) :
    Calls Tryz.prog 56 #[.agg (pnt x1 y1 false), .agg (pnt x2 y2 true)] w fun e w' => e = .returned (.int .i64 1) ∧ Gr w w' := by
  go_enter Tryz.func56, Tryz.ntmps56
  go_upto_region 1 with fail
  refine gen_w (fun v => Hid (Gr w v ∧ Vr v (w.heap.size) (pnt x1 y1 false) ∧ Vr v (w.heap.size + 1) (pnt x2 y2 true))) ⟨(by repeat (first | exact Gr.refl _ | apply Gr.drewN | apply Gr.drew | apply Gr.alloc | apply Gr.gro)), ⟨by simp [go_sem], by simp [go_sem], by simp [go_sem]⟩, ⟨by simp [go_sem], by simp [go_sem], by simp [go_sem]⟩⟩ ?_
  intro v0 HV
  obtain ⟨G, c0, c1⟩ := HV.out
  clear HV
  refine wp_wS [.c (pv (w.heap.size) 18), .c (.bool false), .c (.bool false)] [1] ?hs2 ?hf2
  case hs2 =>
   refine .cons (.o 4 18 c0 rfl (by exact pnt_18 _ _ _)) .nil
  intro yw1 v1 hg h1
  simp only [FW, putFrom, Act.put, List.setIfInBounds_toArray, List.set_cons_zero, List.set_cons_succ, wvals, kW, List.getD_cons_zero, List.getD_cons_succ, Kw.c, pv]
  clear h1
  replace G := G.trans hg
  replace c0 := c0.gr hg
  replace c1 := c1.gr hg
  clear hg
  go_upto_region 3 with fail
  refine wp_wS [.c (pv (w.heap.size + 1) 18), .c (.bool true), .c (.bool true)] [1] ?hs3 ?hf3
  case hs3 =>
   refine .cons (.o 4 18 c1 rfl (by exact pnt_18 _ _ _)) .nil
  intro yw3 v2 hg h3
  simp only [FW, putFrom, Act.put, List.setIfInBounds_toArray, List.set_cons_zero, List.set_cons_succ, wvals, kW, List.getD_cons_zero, List.getD_cons_succ, Kw.c, pv]
  clear h3
  replace G := G.trans hg
  replace c0 := c0.gr hg
  replace c1 := c1.gr hg
  clear hg
  go_wp2_with fail
  go_ret
  exact ⟨rfl, G⟩
set_option maxRecDepth 100000 in
set_option maxHeartbeats 800000 in
theorem rel_2 (x1 y1 x2 y2 : Nat) (e1 : eqN 9 x1 x2 = false) (w : World) :
    Calls Tryz.prog 56 #[.agg (pnt x1 y1 false), .agg (pnt x2 y2 false)] w fun e w' => e = .returned (.int .i64 2) ∧ Gr w w' := by
  go_enter Tryz.func56, Tryz.ntmps56
  go_upto_region 1 with fail
  refine gen_w (fun v => Hid (Gr w v ∧ Vr v (w.heap.size) (pnt x1 y1 false) ∧ Vr v (w.heap.size + 1) (pnt x2 y2 false))) ⟨(by repeat (first | exact Gr.refl _ | apply Gr.drewN | apply Gr.drew | apply Gr.alloc | apply Gr.gro)), ⟨by simp [go_sem], by simp [go_sem], by simp [go_sem]⟩, ⟨by simp [go_sem], by simp [go_sem], by simp [go_sem]⟩⟩ ?_
  intro v0 HV
  obtain ⟨G, c0, c1⟩ := HV.out
  clear HV
  refine wp_wS [.c (pv (w.heap.size) 18), .c (.bool false), .c (.bool false)] [1] ?hs4 ?hf4
  case hs4 =>
   refine .cons (.o 4 18 c0 rfl (by exact pnt_18 _ _ _)) .nil
  intro yw1 v1 hg h1
  simp only [FW, putFrom, Act.put, List.setIfInBounds_toArray, List.set_cons_zero, List.set_cons_succ, wvals, kW, List.getD_cons_zero, List.getD_cons_succ, Kw.c, pv]
  clear h1
  replace G := G.trans hg
  replace c0 := c0.gr hg
  replace c1 := c1.gr hg
  clear hg
  go_upto_region 3 with fail
  refine wp_wS [.c (pv (w.heap.size + 1) 18), .c (.bool false), .c (.bool false)] [1] ?hs5 ?hf5
  case hs5 =>
   refine .cons (.o 4 18 c1 rfl (by exact pnt_18 _ _ _)) .nil
  intro yw3 v2 hg h3
  simp only [FW, putFrom, Act.put, List.setIfInBounds_toArray, List.set_cons_zero, List.set_cons_succ, wvals, kW, List.getD_cons_zero, List.getD_cons_succ, Kw.c, pv]
  clear h3
  replace G := G.trans hg
  replace c0 := c0.gr hg
  replace c1 := c1.gr hg
  clear hg
  go_upto_region 5 with fail
  refine wp_wS [.c (pv (w.heap.size) 0), .c (.agg (nw 9 x1)), .c (pv (w.heap.size + 1) 0), .c (.agg (nw 9 x2)), .c (.bool true), .c (.bool true)] [1, 3, 4] ?hs6 ?hf6
  case hs6 =>
   refine .cons (.g 25 0 c0 rfl) ?_
   refine .cons (.g 25 0 c1 rfl) ?_
   refine .cons (.s (.binOp .neq 25 (.const (.agg (nw 9 x1))) (.const (.agg (nw 9 x2))) 25) rfl fun vv hg => by simp [go_sem, exI, neNat, e1]) .nil
  intro yw5 v3 hg h5
  simp only [FW, putFrom, Act.put, List.setIfInBounds_toArray, List.set_cons_zero, List.set_cons_succ, wvals, kW, List.getD_cons_zero, List.getD_cons_succ, Kw.c, pv]
  clear h5
  replace G := G.trans hg
  replace c0 := c0.gr hg
  replace c1 := c1.gr hg
  clear hg
  go_wp2_with fail
  go_ret
  exact ⟨rfl, G⟩
set_option maxRecDepth 100000 in
set_option maxHeartbeats 800000 in
theorem rel_3 (x1 y1 x2 y2 : Nat) (e1 : eqN 9 x1 x2 = true) (e2 : eqN 9 y1 y2 = true) (e3 : eqN 9 y1 0 = false) (w : World) :
    Calls Tryz.prog 56 #[.agg (pnt x1 y1 false), .agg (pnt x2 y2 false)] w fun e w' => e = .returned (.int .i64 3) ∧ Gr w w' := by
  go_enter Tryz.func56, Tryz.ntmps56
  go_upto_region 1 with fail
  refine gen_w (fun v => Hid (Gr w v ∧ Vr v (w.heap.size) (pnt x1 y1 false) ∧ Vr v (w.heap.size + 1) (pnt x2 y2 false))) ⟨(by repeat (first | exact Gr.refl _ | apply Gr.drewN | apply Gr.drew | apply Gr.alloc | apply Gr.gro)), ⟨by simp [go_sem], by simp [go_sem], by simp [go_sem]⟩, ⟨by simp [go_sem], by simp [go_sem], by simp [go_sem]⟩⟩ ?_
  intro v0 HV
  obtain ⟨G, c0, c1⟩ := HV.out
  clear HV
  refine wp_wS [.c (pv (w.heap.size) 18), .c (.bool false), .c (.bool false)] [1] ?hs7 ?hf7
  case hs7 =>
   refine .cons (.o 4 18 c0 rfl (by exact pnt_18 _ _ _)) .nil
  intro yw1 v1 hg h1
  simp only [FW, putFrom, Act.put, List.setIfInBounds_toArray, List.set_cons_zero, List.set_cons_succ, wvals, kW, List.getD_cons_zero, List.getD_cons_succ, Kw.c, pv]
  clear h1
  replace G := G.trans hg
  replace c0 := c0.gr hg
  replace c1 := c1.gr hg
  clear hg
  go_upto_region 3 with fail
  refine wp_wS [.c (pv (w.heap.size + 1) 18), .c (.bool false), .c (.bool false)] [1] ?hs8 ?hf8
  case hs8 =>
   refine .cons (.o 4 18 c1 rfl (by exact pnt_18 _ _ _)) .nil
  intro yw3 v2 hg h3
  simp only [FW, putFrom, Act.put, List.setIfInBounds_toArray, List.set_cons_zero, List.set_cons_succ, wvals, kW, List.getD_cons_zero, List.getD_cons_succ, Kw.c, pv]
  clear h3
  replace G := G.trans hg
  replace c0 := c0.gr hg
  replace c1 := c1.gr hg
  clear hg
  go_upto_region 5 with fail
  refine wp_wS [.c (pv (w.heap.size) 0), .c (.agg (nw 9 x1)), .c (pv (w.heap.size + 1) 0), .c (.agg (nw 9 x2)), .c (.bool false), .c (.bool false)] [1, 3, 4] ?hs9 ?hf9
  case hs9 =>
   refine .cons (.g 25 0 c0 rfl) ?_
   refine .cons (.g 25 0 c1 rfl) ?_
   refine .cons (.s (.binOp .neq 25 (.const (.agg (nw 9 x1))) (.const (.agg (nw 9 x2))) 25) rfl fun vv hg => by simp [go_sem, exI, neNat, e1]) .nil
  intro yw5 v3 hg h5
  simp only [FW, putFrom, Act.put, List.setIfInBounds_toArray, List.set_cons_zero, List.set_cons_succ, wvals, kW, List.getD_cons_zero, List.getD_cons_succ, Kw.c, pv]
  clear h5
  replace G := G.trans hg
  replace c0 := c0.gr hg
  replace c1 := c1.gr hg
  clear hg
  go_upto_region 7 with fail
  refine wp_wS [.c (.agg (pnt x1 y1 false)), .c (.agg (pnt x2 y2 false)), .c (.bool true), .c (.bool true), .c (pv (w.heap.size) 9), .c (.agg (nw 9 y1)), .c (.agg (nw 9 0)), .c (.bool true), .c (.bool true), .c (.bool true)] [0, 1, 2, 5, 7] ?hs10 ?hf10
  case hs10 =>
   refine .cons (.g 27 0 c0 rfl) ?_
   refine .cons (.g 27 0 c1 rfl) ?_
   refine .cons (.s (.binOp .eql 27 (.const (.agg (pnt x1 y1 false))) (.const (.agg (pnt x2 y2 false))) 27) rfl fun vv hg => by simp [go_sem, exI, eqPn, e1, e2]) ?_
   refine .cons (.g 25 9 c0 rfl) ?_
   refine .cons (.s (.binOp .neq 25 (.const (.agg (nw 9 y1))) (.const (.agg (nw 9 0))) 25) rfl fun vv hg => by simp [go_sem, exI, neNat, e3]) .nil
  intro yw7 v4 hg h7
  simp only [FW, putFrom, Act.put, List.setIfInBounds_toArray, List.set_cons_zero, List.set_cons_succ, wvals, kW, List.getD_cons_zero, List.getD_cons_succ, Kw.c, pv]
  clear h7
  replace G := G.trans hg
  replace c0 := c0.gr hg
  replace c1 := c1.gr hg
  clear hg
  go_wp2_with fail
  go_ret
  exact ⟨rfl, G⟩
set_option maxRecDepth 100000 in
set_option maxHeartbeats 800000 in
theorem rel_4 (x1 y1 x2 y2 : Nat) (e1 : eqN 9 x1 x2 = true) (e2 : eqN 9 y1 y2 = false) (w : World) :
    Calls Tryz.prog 56 #[.agg (pnt x1 y1 false), .agg (pnt x2 y2 false)] w fun e w' => e = .returned (.int .i64 4) ∧ Gr w w' := by
  go_enter Tryz.func56, Tryz.ntmps56
  go_upto_region 1 with fail
  refine gen_w (fun v => Hid (Gr w v ∧ Vr v (w.heap.size) (pnt x1 y1 false) ∧ Vr v (w.heap.size + 1) (pnt x2 y2 false))) ⟨(by repeat (first | exact Gr.refl _ | apply Gr.drewN | apply Gr.drew | apply Gr.alloc | apply Gr.gro)), ⟨by simp [go_sem], by simp [go_sem], by simp [go_sem]⟩, ⟨by simp [go_sem], by simp [go_sem], by simp [go_sem]⟩⟩ ?_
  intro v0 HV
  obtain ⟨G, c0, c1⟩ := HV.out
  clear HV
  refine wp_wS [.c (pv (w.heap.size) 18), .c (.bool false), .c (.bool false)] [1] ?hs11 ?hf11
  case hs11 =>
   refine .cons (.o 4 18 c0 rfl (by exact pnt_18 _ _ _)) .nil
  intro yw1 v1 hg h1
  simp only [FW, putFrom, Act.put, List.setIfInBounds_toArray, List.set_cons_zero, List.set_cons_succ, wvals, kW, List.getD_cons_zero, List.getD_cons_succ, Kw.c, pv]
  clear h1
  replace G := G.trans hg
  replace c0 := c0.gr hg
  replace c1 := c1.gr hg
  clear hg
  go_upto_region 3 with fail
  refine wp_wS [.c (pv (w.heap.size + 1) 18), .c (.bool false), .c (.bool false)] [1] ?hs12 ?hf12
  case hs12 =>
   refine .cons (.o 4 18 c1 rfl (by exact pnt_18 _ _ _)) .nil
  intro yw3 v2 hg h3
  simp only [FW, putFrom, Act.put, List.setIfInBounds_toArray, List.set_cons_zero, List.set_cons_succ, wvals, kW, List.getD_cons_zero, List.getD_cons_succ, Kw.c, pv]
  clear h3
  replace G := G.trans hg
  replace c0 := c0.gr hg
  replace c1 := c1.gr hg
  clear hg
  go_upto_region 5 with fail
  refine wp_wS [.c (pv (w.heap.size) 0), .c (.agg (nw 9 x1)), .c (pv (w.heap.size + 1) 0), .c (.agg (nw 9 x2)), .c (.bool false), .c (.bool false)] [1, 3, 4] ?hs13 ?hf13
  case hs13 =>
   refine .cons (.g 25 0 c0 rfl) ?_
   refine .cons (.g 25 0 c1 rfl) ?_
   refine .cons (.s (.binOp .neq 25 (.const (.agg (nw 9 x1))) (.const (.agg (nw 9 x2))) 25) rfl fun vv hg => by simp [go_sem, exI, neNat, e1]) .nil
  intro yw5 v3 hg h5
  simp only [FW, putFrom, Act.put, List.setIfInBounds_toArray, List.set_cons_zero, List.set_cons_succ, wvals, kW, List.getD_cons_zero, List.getD_cons_succ, Kw.c, pv]
  clear h5
  replace G := G.trans hg
  replace c0 := c0.gr hg
  replace c1 := c1.gr hg
  clear hg
  go_upto_region 7 with fail
  refine wp_wS [.c (.agg (pnt x1 y1 false)), .c (.agg (pnt x2 y2 false)), .c (.bool false), .c (.bool false), .u, .u, .u, .u, .c (.bool false), .c (.bool false)] [0, 1, 2] ?hs14 ?hf14
  case hs14 =>
   refine .cons (.g 27 0 c0 rfl) ?_
   refine .cons (.g 27 0 c1 rfl) ?_
   refine .cons (.s (.binOp .eql 27 (.const (.agg (pnt x1 y1 false))) (.const (.agg (pnt x2 y2 false))) 27) rfl fun vv hg => by simp [go_sem, exI, eqPn, e1, e2]) .nil
  intro yw7 v4 hg h7
  simp only [FW, putFrom, Act.put, List.setIfInBounds_toArray, List.set_cons_zero, List.set_cons_succ, wvals, kW, List.getD_cons_zero, List.getD_cons_succ, Kw.c, Kw.u]
  clear h7
  replace G := G.trans hg
  replace c0 := c0.gr hg
  replace c1 := c1.gr hg
  clear hg
  go_wp2_with fail
  go_ret
  exact ⟨rfl, G⟩
set_option maxRecDepth 100000 in
set_option maxHeartbeats 800000 in
theorem rel_5 (x1 y1 x2 y2 : Nat) (e1 : eqN 9 x1 x2 = true) (e2 : eqN 9 y1 y2 = true) (e3 : eqN 9 y1 0 = true) (w : World) :
    Calls Tryz.prog 56 #[.agg (pnt x1 y1 false), .agg (pnt x2 y2 false)] w fun e w' => e = .returned (.int .i64 4) ∧ Gr w w' := by
  go_enter Tryz.func56, Tryz.ntmps56
  go_upto_region 1 with fail
  refine gen_w (fun v => Hid (Gr w v ∧ Vr v (w.heap.size) (pnt x1 y1 false) ∧ Vr v (w.heap.size + 1) (pnt x2 y2 false))) ⟨(by repeat (first | exact Gr.refl _ | apply Gr.drewN | apply Gr.drew | apply Gr.alloc | apply Gr.gro)), ⟨by simp [go_sem], by simp [go_sem], by simp [go_sem]⟩, ⟨by simp [go_sem], by simp [go_sem], by simp [go_sem]⟩⟩ ?_
  intro v0 HV
  obtain ⟨G, c0, c1⟩ := HV.out
  clear HV
  refine wp_wS [.c (pv (w.heap.size) 18), .c (.bool false), .c (.bool false)] [1] ?hs15 ?hf15
  case hs15 =>
   refine .cons (.o 4 18 c0 rfl (by exact pnt_18 _ _ _)) .nil
  intro yw1 v1 hg h1
  simp only [FW, putFrom, Act.put, List.setIfInBounds_toArray, List.set_cons_zero, List.set_cons_succ, wvals, kW, List.getD_cons_zero, List.getD_cons_succ, Kw.c, pv]
  clear h1
  replace G := G.trans hg
  replace c0 := c0.gr hg
  replace c1 := c1.gr hg
  clear hg
  go_upto_region 3 with fail
  refine wp_wS [.c (pv (w.heap.size + 1) 18), .c (.bool false), .c (.bool false)] [1] ?hs16 ?hf16
  case hs16 =>
   refine .cons (.o 4 18 c1 rfl (by exact pnt_18 _ _ _)) .nil
  intro yw3 v2 hg h3
  simp only [FW, putFrom, Act.put, List.setIfInBounds_toArray, List.set_cons_zero, List.set_cons_succ, wvals, kW, List.getD_cons_zero, List.getD_cons_succ, Kw.c, pv]
  clear h3
  replace G := G.trans hg
  replace c0 := c0.gr hg
  replace c1 := c1.gr hg
  clear hg
  go_upto_region 5 with fail
  refine wp_wS [.c (pv (w.heap.size) 0), .c (.agg (nw 9 x1)), .c (pv (w.heap.size + 1) 0), .c (.agg (nw 9 x2)), .c (.bool false), .c (.bool false)] [1, 3, 4] ?hs17 ?hf17
  case hs17 =>
   refine .cons (.g 25 0 c0 rfl) ?_
   refine .cons (.g 25 0 c1 rfl) ?_
   refine .cons (.s (.binOp .neq 25 (.const (.agg (nw 9 x1))) (.const (.agg (nw 9 x2))) 25) rfl fun vv hg => by simp [go_sem, exI, neNat, e1]) .nil
  intro yw5 v3 hg h5
  simp only [FW, putFrom, Act.put, List.setIfInBounds_toArray, List.set_cons_zero, List.set_cons_succ, wvals, kW, List.getD_cons_zero, List.getD_cons_succ, Kw.c, pv]
  clear h5
  replace G := G.trans hg
  replace c0 := c0.gr hg
  replace c1 := c1.gr hg
  clear hg
  go_upto_region 7 with fail
  refine wp_wS [.c (.agg (pnt x1 y1 false)), .c (.agg (pnt x2 y2 false)), .c (.bool true), .c (.bool true), .c (pv (w.heap.size) 9), .c (.agg (nw 9 y1)), .c (.agg (nw 9 0)), .c (.bool false), .c (.bool false), .c (.bool false)] [0, 1, 2, 5, 7] ?hs18 ?hf18
  case hs18 =>
   refine .cons (.g 27 0 c0 rfl) ?_
   refine .cons (.g 27 0 c1 rfl) ?_
   refine .cons (.s (.binOp .eql 27 (.const (.agg (pnt x1 y1 false))) (.const (.agg (pnt x2 y2 false))) 27) rfl fun vv hg => by simp [go_sem, exI, eqPn, e1, e2]) ?_
   refine .cons (.g 25 9 c0 rfl) ?_
   refine .cons (.s (.binOp .neq 25 (.const (.agg (nw 9 y1))) (.const (.agg (nw 9 0))) 25) rfl fun vv hg => by simp [go_sem, exI, neNat, e3]) .nil
  intro yw7 v4 hg h7
  simp only [FW, putFrom, Act.put, List.setIfInBounds_toArray, List.set_cons_zero, List.set_cons_succ, wvals, kW, List.getD_cons_zero, List.getD_cons_succ, Kw.c, pv]
  clear h7
  replace G := G.trans hg
  replace c0 := c0.gr hg
  replace c1 := c1.gr hg
  clear hg
  go_wp2_with fail
  go_ret
  exact ⟨rfl, G⟩
set_option maxRecDepth 100000 in
set_option maxHeartbeats 1600000 in
theorem gadd_0 (id : Int) (P A B N X Y : Nat) (s z : Int) (l : Bool) (x1 y1 x2 y2 x3 y3 : Nat) (f1 f2 f3 : Bool)
    (HR' : ∀ w, Calls Tryz.prog 56 #[.agg (pnt x1 y1 f1), .agg (pnt x2 y2 f2)] w fun e w' => e = .returned (.int .i64 0) ∧ Gr w w') (HS' : ∀ w, Calls Tryz.prog 67 #[.agg (cu id P A B N X Y s z l), .agg (pnt x1 y1 f1), .agg (pnt x2 y2 f2)] w fun e w' => e = .returned (.agg (pnt x3 y3 f3)) ∧ Gr w w') (w : World) :
    Calls Tryz.prog 38 #[.agg (cu id P A B N X Y s z l), .agg (pnt x1 y1 f1), .agg (pnt x2 y2 f2)] w fun e w' => e = .returned (.agg (pnt x3 y3 f3)) ∧ Gr w w' := by
  have HR : Hid (∀ w, Calls Tryz.prog 56 #[.agg (pnt x1 y1 f1), .agg (pnt x2 y2 f2)] w fun e w' => e = .returned (.int .i64 0) ∧ Gr w w') := HR'
  have HS : Hid (∀ w, Calls Tryz.prog 67 #[.agg (cu id P A B N X Y s z l), .agg (pnt x1 y1 f1), .agg (pnt x2 y2 f2)] w fun e w' => e = .returned (.agg (pnt x3 y3 f3)) ∧ Gr w w') := HS'
  clear HR' HS'
  go_enter Tryz.func38, Tryz.ntmps38
  go_upto_region 1 with fail
  refine gen_w (fun v => Hid (Gr w v ∧ Vr v (w.heap.size) (cu id P A B N X Y s z l) ∧ Vr v (w.heap.size + 1) (pnt x1 y1 f1) ∧ Vr v (w.heap.size + 1 + 1) (pnt x2 y2 f2) ∧ Vr v (w.heap.size + 1 + 1 + 1) (pnt 0 0 false))) ⟨(by repeat (first | exact Gr.refl _ | apply Gr.drewN | apply Gr.drew | apply Gr.alloc | apply Gr.gro)), ⟨by simp [go_sem], by simp [go_sem], by simp [go_sem]⟩, ⟨by simp [go_sem], by simp [go_sem], by simp [go_sem]⟩, ⟨by simp [go_sem], by simp [go_sem], by simp [go_sem]⟩, ⟨by simp [go_sem], by simp [go_sem], by simp [go_sem]⟩⟩ ?_
  intro v0 HV
  obtain ⟨G, c0, c1, c2, c3⟩ := HV.out
  clear HV
  refine wp_wT 9 [.c (.agg tabA), .c (.agg (pnt x1 y1 f1)), .c (.agg (pnt x2 y2 f2)), .c (.int .i64 0), .c (.func (.func 67) #[] #[]), .c (.agg (cu id P A B N X Y s z l)), .c (.agg (pnt x1 y1 f1)), .c (.agg (pnt x2 y2 f2)), .c (.agg (pnt x3 y3 f3))] [0, 1, 2, 3, 5, 6, 7, 8] ?hs19 ?hf19
  case hs19 =>
   refine .cons (.k _ fun yy vv hg hh => RtW.of_c (Rt.c (toSum_any _))) ?_
   refine .cons (.g 27 0 c1 rfl) ?_
   refine .cons (.g 27 0 c2 rfl) ?_
   refine .cons (.k _ fun yy vv hg hh => RtW.of_c (Rt.c (HR.out _))) ?_
   refine .cons (.g 74 0 c0 rfl) ?_
   refine .cons (.g 27 0 c1 rfl) ?_
   refine .cons (.g 27 0 c2 rfl) ?_
   refine .cons (.k _ fun yy vv hg hh => RtW.of_c (Rt.c (HS.out _))) .nil
  refine .s 27 (fun yy => .pointer (some ⟨w.heap.size + 1 + 1 + 1, 0, none⟩)) (fun yy => .agg (pnt x3 y3 f3)) fun yw1 v1 hg h1 => ?_
  have HT := (c3.gr hg).h
  have FT := (c3.gr hg).f
  refine ⟨setBlk v1 (w.heap.size + 1 + 1 + 1) (pnt x3 y3 f3), by simp [go_sem, exI, HT, FT], ?_⟩
  simp only [FW, putFrom, Act.put, List.setIfInBounds_toArray, List.set_cons_zero, List.set_cons_succ, wvals, kW, List.getD_cons_zero, List.getD_cons_succ, Kw.c]
  clear h1
  replace G := G.trans hg
  replace c0 := c0.gr hg
  replace c1 := c1.gr hg
  replace c2 := c2.gr hg
  replace c3 := c3.gr hg
  clear hg
  go_wp2_with fail
  exact bodyPost_ret (res_one Tryz.results38 (rd_pn (by rfl) (blk_setBlk _ _ _ (by rw [HT]; decide +kernel)))) rfl ⟨rfl, gr_setNew G (by omega)⟩
set_option maxRecDepth 100000 in
set_option maxHeartbeats 1600000 in
theorem gadd_1 (id : Int) (P A B N X Y : Nat) (s z : Int) (l : Bool) (x1 y1 x2 y2 x3 y3 : Nat) (f1 f2 f3 : Bool)
    (HR' : ∀ w, Calls Tryz.prog 56 #[.agg (pnt x1 y1 f1), .agg (pnt x2 y2 f2)] w fun e w' => e = .returned (.int .i64 1) ∧ Gr w w') (HS' : ∀ w, Calls Tryz.prog 68 #[.agg (cu id P A B N X Y s z l), .agg (pnt x1 y1 f1), .agg (pnt x2 y2 f2)] w fun e w' => e = .returned (.agg (pnt x3 y3 f3)) ∧ Gr w w') (w : World) :
    Calls Tryz.prog 38 #[.agg (cu id P A B N X Y s z l), .agg (pnt x1 y1 f1), .agg (pnt x2 y2 f2)] w fun e w' => e = .returned (.agg (pnt x3 y3 f3)) ∧ Gr w w' := by
  have HR : Hid (∀ w, Calls Tryz.prog 56 #[.agg (pnt x1 y1 f1), .agg (pnt x2 y2 f2)] w fun e w' => e = .returned (.int .i64 1) ∧ Gr w w') := HR'
  have HS : Hid (∀ w, Calls Tryz.prog 68 #[.agg (cu id P A B N X Y s z l), .agg (pnt x1 y1 f1), .agg (pnt x2 y2 f2)] w fun e w' => e = .returned (.agg (pnt x3 y3 f3)) ∧ Gr w w') := HS'
  clear HR' HS'
  go_enter Tryz.func38, Tryz.ntmps38
  go_upto_region 1 with fail
  refine gen_w (fun v => Hid (Gr w v ∧ Vr v (w.heap.size) (cu id P A B N X Y s z l) ∧ Vr v (w.heap.size + 1) (pnt x1 y1 f1) ∧ Vr v (w.heap.size + 1 + 1) (pnt x2 y2 f2) ∧ Vr v (w.heap.size + 1 + 1 + 1) (pnt 0 0 false))) ⟨(by repeat (first | exact Gr.refl _ | apply Gr.drewN | apply Gr.drew | apply Gr.alloc | apply Gr.gro)), ⟨by simp [go_sem], by simp [go_sem], by simp [go_sem]⟩, ⟨by simp [go_sem], by simp [go_sem], by simp [go_sem]⟩, ⟨by simp [go_sem], by simp [go_sem], by simp [go_sem]⟩, ⟨by simp [go_sem], by simp [go_sem], by simp [go_sem]⟩⟩ ?_
  intro v0 HV
  obtain ⟨G, c0, c1, c2, c3⟩ := HV.out
  clear HV
  refine wp_wT 9 [.c (.agg tabA), .c (.agg (pnt x1 y1 f1)), .c (.agg (pnt x2 y2 f2)), .c (.int .i64 1), .c (.func (.func 68) #[] #[]), .c (.agg (cu id P A B N X Y s z l)), .c (.agg (pnt x1 y1 f1)), .c (.agg (pnt x2 y2 f2)), .c (.agg (pnt x3 y3 f3))] [0, 1, 2, 3, 5, 6, 7, 8] ?hs20 ?hf20
  case hs20 =>
   refine .cons (.k _ fun yy vv hg hh => RtW.of_c (Rt.c (toSum_any _))) ?_
   refine .cons (.g 27 0 c1 rfl) ?_
   refine .cons (.g 27 0 c2 rfl) ?_
   refine .cons (.k _ fun yy vv hg hh => RtW.of_c (Rt.c (HR.out _))) ?_
   refine .cons (.g 74 0 c0 rfl) ?_
   refine .cons (.g 27 0 c1 rfl) ?_
   refine .cons (.g 27 0 c2 rfl) ?_
   refine .cons (.k _ fun yy vv hg hh => RtW.of_c (Rt.c (HS.out _))) .nil
  refine .s 27 (fun yy => .pointer (some ⟨w.heap.size + 1 + 1 + 1, 0, none⟩)) (fun yy => .agg (pnt x3 y3 f3)) fun yw1 v1 hg h1 => ?_
  have HT := (c3.gr hg).h
  have FT := (c3.gr hg).f
  refine ⟨setBlk v1 (w.heap.size + 1 + 1 + 1) (pnt x3 y3 f3), by simp [go_sem, exI, HT, FT], ?_⟩
  simp only [FW, putFrom, Act.put, List.setIfInBounds_toArray, List.set_cons_zero, List.set_cons_succ, wvals, kW, List.getD_cons_zero, List.getD_cons_succ, Kw.c]
  clear h1
  replace G := G.trans hg
  replace c0 := c0.gr hg
  replace c1 := c1.gr hg
  replace c2 := c2.gr hg
  replace c3 := c3.gr hg
  clear hg
  go_wp2_with fail
  exact bodyPost_ret (res_one Tryz.results38 (rd_pn (by rfl) (blk_setBlk _ _ _ (by rw [HT]; decide +kernel)))) rfl ⟨rfl, gr_setNew G (by omega)⟩
set_option maxRecDepth 100000 in
set_option maxHeartbeats 1600000 in
theorem gadd_2 (id : Int) (P A B N X Y : Nat) (s z : Int) (l : Bool) (x1 y1 x2 y2 x3 y3 : Nat) (f1 f2 f3 : Bool)
    (HR' : ∀ w, Calls Tryz.prog 56 #[.agg (pnt x1 y1 f1), .agg (pnt x2 y2 f2)] w fun e w' => e = .returned (.int .i64 2) ∧ Gr w w') (HS' : ∀ w, Calls Tryz.prog 69 #[.agg (cu id P A B N X Y s z l), .agg (pnt x1 y1 f1), .agg (pnt x2 y2 f2)] w fun e w' => e = .returned (.agg (pnt x3 y3 f3)) ∧ Gr w w') (w : World) :
    Calls Tryz.prog 38 #[.agg (cu id P A B N X Y s z l), .agg (pnt x1 y1 f1), .agg (pnt x2 y2 f2)] w fun e w' => e = .returned (.agg (pnt x3 y3 f3)) ∧ Gr w w' := by
  have HR : Hid (∀ w, Calls Tryz.prog 56 #[.agg (pnt x1 y1 f1), .agg (pnt x2 y2 f2)] w fun e w' => e = .returned (.int .i64 2) ∧ Gr w w') := HR'
  have HS : Hid (∀ w, Calls Tryz.prog 69 #[.agg (cu id P A B N X Y s z l), .agg (pnt x1 y1 f1), .agg (pnt x2 y2 f2)] w fun e w' => e = .returned (.agg (pnt x3 y3 f3)) ∧ Gr w w') := HS'
  clear HR' HS'
  go_enter Tryz.func38, Tryz.ntmps38
  go_upto_region 1 with fail
  refine gen_w (fun v => Hid (Gr w v ∧ Vr v (w.heap.size) (cu id P A B N X Y s z l) ∧ Vr v (w.heap.size + 1) (pnt x1 y1 f1) ∧ Vr v (w.heap.size + 1 + 1) (pnt x2 y2 f2) ∧ Vr v (w.heap.size + 1 + 1 + 1) (pnt 0 0 false))) ⟨(by repeat (first | exact Gr.refl _ | apply Gr.drewN | apply Gr.drew | apply Gr.alloc | apply Gr.gro)), ⟨by simp [go_sem], by simp [go_sem], by simp [go_sem]⟩, ⟨by simp [go_sem], by simp [go_sem], by simp [go_sem]⟩, ⟨by simp [go_sem], by simp [go_sem], by simp [go_sem]⟩, ⟨by simp [go_sem], by simp [go_sem], by simp [go_sem]⟩⟩ ?_
  intro v0 HV
  obtain ⟨G, c0, c1, c2, c3⟩ := HV.out
  clear HV
  refine wp_wT 9 [.c (.agg tabA), .c (.agg (pnt x1 y1 f1)), .c (.agg (pnt x2 y2 f2)), .c (.int .i64 2), .c (.func (.func 69) #[] #[]), .c (.agg (cu id P A B N X Y s z l)), .c (.agg (pnt x1 y1 f1)), .c (.agg (pnt x2 y2 f2)), .c (.agg (pnt x3 y3 f3))] [0, 1, 2, 3, 5, 6, 7, 8] ?hs21 ?hf21
  case hs21 =>
   refine .cons (.k _ fun yy vv hg hh => RtW.of_c (Rt.c (toSum_any _))) ?_
   refine .cons (.g 27 0 c1 rfl) ?_
   refine .cons (.g 27 0 c2 rfl) ?_
   refine .cons (.k _ fun yy vv hg hh => RtW.of_c (Rt.c (HR.out _))) ?_
   refine .cons (.g 74 0 c0 rfl) ?_
   refine .cons (.g 27 0 c1 rfl) ?_
   refine .cons (.g 27 0 c2 rfl) ?_
   refine .cons (.k _ fun yy vv hg hh => RtW.of_c (Rt.c (HS.out _))) .nil
  refine .s 27 (fun yy => .pointer (some ⟨w.heap.size + 1 + 1 + 1, 0, none⟩)) (fun yy => .agg (pnt x3 y3 f3)) fun yw1 v1 hg h1 => ?_
  have HT := (c3.gr hg).h
  have FT := (c3.gr hg).f
  refine ⟨setBlk v1 (w.heap.size + 1 + 1 + 1) (pnt x3 y3 f3), by simp [go_sem, exI, HT, FT], ?_⟩
  simp only [FW, putFrom, Act.put, List.setIfInBounds_toArray, List.set_cons_zero, List.set_cons_succ, wvals, kW, List.getD_cons_zero, List.getD_cons_succ, Kw.c]
  clear h1
  replace G := G.trans hg
  replace c0 := c0.gr hg
  replace c1 := c1.gr hg
  replace c2 := c2.gr hg
  replace c3 := c3.gr hg
  clear hg
  go_wp2_with fail
  exact bodyPost_ret (res_one Tryz.results38 (rd_pn (by rfl) (blk_setBlk _ _ _ (by rw [HT]; decide +kernel)))) rfl ⟨rfl, gr_setNew G (by omega)⟩
set_option maxRecDepth 100000 in
set_option maxHeartbeats 1600000 in
theorem gadd_3 (id : Int) (P A B N X Y : Nat) (s z : Int) (l : Bool) (x1 y1 x2 y2 x3 y3 : Nat) (f1 f2 f3 : Bool)
    (HR' : ∀ w, Calls Tryz.prog 56 #[.agg (pnt x1 y1 f1), .agg (pnt x2 y2 f2)] w fun e w' => e = .returned (.int .i64 3) ∧ Gr w w') (HS' : ∀ w, Calls Tryz.prog 70 #[.agg (cu id P A B N X Y s z l), .agg (pnt x1 y1 f1), .agg (pnt x2 y2 f2)] w fun e w' => e = .returned (.agg (pnt x3 y3 f3)) ∧ Gr w w') (w : World) :
    Calls Tryz.prog 38 #[.agg (cu id P A B N X Y s z l), .agg (pnt x1 y1 f1), .agg (pnt x2 y2 f2)] w fun e w' => e = .returned (.agg (pnt x3 y3 f3)) ∧ Gr w w' := by
  have HR : Hid (∀ w, Calls Tryz.prog 56 #[.agg (pnt x1 y1 f1), .agg (pnt x2 y2 f2)] w fun e w' => e = .returned (.int .i64 3) ∧ Gr w w') := HR'
  have HS : Hid (∀ w, Calls Tryz.prog 70 #[.agg (cu id P A B N X Y s z l), .agg (pnt x1 y1 f1), .agg (pnt x2 y2 f2)] w fun e w' => e = .returned (.agg (pnt x3 y3 f3)) ∧ Gr w w') := HS'
  clear HR' HS'
  go_enter Tryz.func38, Tryz.ntmps38
  go_upto_region 1 with fail
  refine gen_w (fun v => Hid (Gr w v ∧ Vr v (w.heap.size) (cu id P A B N X Y s z l) ∧ Vr v (w.heap.size + 1) (pnt x1 y1 f1) ∧ Vr v (w.heap.size + 1 + 1) (pnt x2 y2 f2) ∧ Vr v (w.heap.size + 1 + 1 + 1) (pnt 0 0 false))) ⟨(by repeat (first | exact Gr.refl _ | apply Gr.drewN | apply Gr.drew | apply Gr.alloc | apply Gr.gro)), ⟨by simp [go_sem], by simp [go_sem], by simp [go_sem]⟩, ⟨by simp [go_sem], by simp [go_sem], by simp [go_sem]⟩, ⟨by simp [go_sem], by simp [go_sem], by simp [go_sem]⟩, ⟨by simp [go_sem], by simp [go_sem], by simp [go_sem]⟩⟩ ?_
  intro v0 HV
  obtain ⟨G, c0, c1, c2, c3⟩ := HV.out
  clear HV
  refine wp_wT 9 [.c (.agg tabA), .c (.agg (pnt x1 y1 f1)), .c (.agg (pnt x2 y2 f2)), .c (.int .i64 3), .c (.func (.func 70) #[] #[]), .c (.agg (cu id P A B N X Y s z l)), .c (.agg (pnt x1 y1 f1)), .c (.agg (pnt x2 y2 f2)), .c (.agg (pnt x3 y3 f3))] [0, 1, 2, 3, 5, 6, 7, 8] ?hs22 ?hf22
  case hs22 =>
   refine .cons (.k _ fun yy vv hg hh => RtW.of_c (Rt.c (toSum_any _))) ?_
   refine .cons (.g 27 0 c1 rfl) ?_
   refine .cons (.g 27 0 c2 rfl) ?_
   refine .cons (.k _ fun yy vv hg hh => RtW.of_c (Rt.c (HR.out _))) ?_
   refine .cons (.g 74 0 c0 rfl) ?_
   refine .cons (.g 27 0 c1 rfl) ?_
   refine .cons (.g 27 0 c2 rfl) ?_
   refine .cons (.k _ fun yy vv hg hh => RtW.of_c (Rt.c (HS.out _))) .nil
  refine .s 27 (fun yy => .pointer (some ⟨w.heap.size + 1 + 1 + 1, 0, none⟩)) (fun yy => .agg (pnt x3 y3 f3)) fun yw1 v1 hg h1 => ?_
  have HT := (c3.gr hg).h
  have FT := (c3.gr hg).f
  refine ⟨setBlk v1 (w.heap.size + 1 + 1 + 1) (pnt x3 y3 f3), by simp [go_sem, exI, HT, FT], ?_⟩
  simp only [FW, putFrom, Act.put, List.setIfInBounds_toArray, List.set_cons_zero, List.set_cons_succ, wvals, kW, List.getD_cons_zero, List.getD_cons_succ, Kw.c]
  clear h1
  replace G := G.trans hg
  replace c0 := c0.gr hg
  replace c1 := c1.gr hg
  replace c2 := c2.gr hg
  replace c3 := c3.gr hg
  clear hg
  go_wp2_with fail
  exact bodyPost_ret (res_one Tryz.results38 (rd_pn (by rfl) (blk_setBlk _ _ _ (by rw [HT]; decide +kernel)))) rfl ⟨rfl, gr_setNew G (by omega)⟩
set_option maxRecDepth 100000 in
set_option maxHeartbeats 1600000 in
theorem gadd_4 (id : Int) (P A B N X Y : Nat) (s z : Int) (l : Bool) (x1 y1 x2 y2 x3 y3 : Nat) (f1 f2 f3 : Bool)
    (HR' : ∀ w, Calls Tryz.prog 56 #[.agg (pnt x1 y1 f1), .agg (pnt x2 y2 f2)] w fun e w' => e = .returned (.int .i64 4) ∧ Gr w w') (HS' : ∀ w, Calls Tryz.prog 71 #[.agg (cu id P A B N X Y s z l), .agg (pnt x1 y1 f1), .agg (pnt x2 y2 f2)] w fun e w' => e = .returned (.agg (pnt x3 y3 f3)) ∧ Gr w w') (w : World) :
    Calls Tryz.prog 38 #[.agg (cu id P A B N X Y s z l), .agg (pnt x1 y1 f1), .agg (pnt x2 y2 f2)] w fun e w' => e = .returned (.agg (pnt x3 y3 f3)) ∧ Gr w w' := by
  have HR : Hid (∀ w, Calls Tryz.prog 56 #[.agg (pnt x1 y1 f1), .agg (pnt x2 y2 f2)] w fun e w' => e = .returned (.int .i64 4) ∧ Gr w w') := HR'
  have HS : Hid (∀ w, Calls Tryz.prog 71 #[.agg (cu id P A B N X Y s z l), .agg (pnt x1 y1 f1), .agg (pnt x2 y2 f2)] w fun e w' => e = .returned (.agg (pnt x3 y3 f3)) ∧ Gr w w') := HS'
  clear HR' HS'
  go_enter Tryz.func38, Tryz.ntmps38
  go_upto_region 1 with fail
  refine gen_w (fun v => Hid (Gr w v ∧ Vr v (w.heap.size) (cu id P A B N X Y s z l) ∧ Vr v (w.heap.size + 1) (pnt x1 y1 f1) ∧ Vr v (w.heap.size + 1 + 1) (pnt x2 y2 f2) ∧ Vr v (w.heap.size + 1 + 1 + 1) (pnt 0 0 false))) ⟨(by repeat (first | exact Gr.refl _ | apply Gr.drewN | apply Gr.drew | apply Gr.alloc | apply Gr.gro)), ⟨by simp [go_sem], by simp [go_sem], by simp [go_sem]⟩, ⟨by simp [go_sem], by simp [go_sem], by simp [go_sem]⟩, ⟨by simp [go_sem], by simp [go_sem], by simp [go_sem]⟩, ⟨by simp [go_sem], by simp [go_sem], by simp [go_sem]⟩⟩ ?_
  intro v0 HV
  obtain ⟨G, c0, c1, c2, c3⟩ := HV.out
  clear HV
  refine wp_wT 9 [.c (.agg tabA), .c (.agg (pnt x1 y1 f1)), .c (.agg (pnt x2 y2 f2)), .c (.int .i64 4), .c (.func (.func 71) #[] #[]), .c (.agg (cu id P A B N X Y s z l)), .c (.agg (pnt x1 y1 f1)), .c (.agg (pnt x2 y2 f2)), .c (.agg (pnt x3 y3 f3))] [0, 1, 2, 3, 5, 6, 7, 8] ?hs23 ?hf23
  case hs23 =>
   refine .cons (.k _ fun yy vv hg hh => RtW.of_c (Rt.c (toSum_any _))) ?_
   refine .cons (.g 27 0 c1 rfl) ?_
   refine .cons (.g 27 0 c2 rfl) ?_
   refine .cons (.k _ fun yy vv hg hh => RtW.of_c (Rt.c (HR.out _))) ?_
   refine .cons (.g 74 0 c0 rfl) ?_
   refine .cons (.g 27 0 c1 rfl) ?_
   refine .cons (.g 27 0 c2 rfl) ?_
   refine .cons (.k _ fun yy vv hg hh => RtW.of_c (Rt.c (HS.out _))) .nil
  refine .s 27 (fun yy => .pointer (some ⟨w.heap.size + 1 + 1 + 1, 0, none⟩)) (fun yy => .agg (pnt x3 y3 f3)) fun yw1 v1 hg h1 => ?_
  have HT := (c3.gr hg).h
  have FT := (c3.gr hg).f
  refine ⟨setBlk v1 (w.heap.size + 1 + 1 + 1) (pnt x3 y3 f3), by simp [go_sem, exI, HT, FT], ?_⟩
  simp only [FW, putFrom, Act.put, List.setIfInBounds_toArray, List.set_cons_zero, List.set_cons_succ, wvals, kW, List.getD_cons_zero, List.getD_cons_succ, Kw.c]
  clear h1
  replace G := G.trans hg
  replace c0 := c0.gr hg
  replace c1 := c1.gr hg
  replace c2 := c2.gr hg
  replace c3 := c3.gr hg
  clear hg
  go_wp2_with fail
  exact bodyPost_ret (res_one Tryz.results38 (rd_pn (by rfl) (blk_setBlk _ _ _ (by rw [HT]; decide +kernel)))) rfl ⟨rfl, gr_setNew G (by omega)⟩
set_option maxRecDepth 100000 in
set_option maxHeartbeats 1600000 in
theorem gdbladd_of (id : Int) (P A B N X Y : Nat) (s z : Int) (l : Bool) (x1 y1 x2 y2 x3 y3 x4 y4 : Nat) (f1 f2 f3 f4 : Bool)
    (H1' : ∀ w, Calls Tryz.prog 38 #[.agg (cu id P A B N X Y s z l), .agg (pnt x1 y1 f1), .agg (pnt x1 y1 f1)] w fun e w' => e = .returned (.agg (pnt x3 y3 f3)) ∧ Gr w w') (H2' : ∀ w, Calls Tryz.prog 38 #[.agg (cu id P A B N X Y s z l), .agg (pnt x3 y3 f3), .agg (pnt x2 y2 f2)] w fun e w' => e = .returned (.agg (pnt x4 y4 f4)) ∧ Gr w w') (w : World) :
    Calls Tryz.prog 78 #[.agg (cu id P A B N X Y s z l), .agg (pnt x1 y1 f1), .agg (pnt x2 y2 f2)] w fun e w' => e = .returned (.agg (pnt x4 y4 f4)) ∧ Gr w w' := by
  have H1 : Hid (∀ w, Calls Tryz.prog 38 #[.agg (cu id P A B N X Y s z l), .agg (pnt x1 y1 f1), .agg (pnt x1 y1 f1)] w fun e w' => e = .returned (.agg (pnt x3 y3 f3)) ∧ Gr w w') := H1'
  have H2 : Hid (∀ w, Calls Tryz.prog 38 #[.agg (cu id P A B N X Y s z l), .agg (pnt x3 y3 f3), .agg (pnt x2 y2 f2)] w fun e w' => e = .returned (.agg (pnt x4 y4 f4)) ∧ Gr w w') := H2'
  clear H1' H2'
  go_enter Tryz.func78, Tryz.ntmps78
  go_upto_region 1 with fail
  refine gen_w (fun v => Hid (Gr w v ∧ Vr v (w.heap.size) (cu id P A B N X Y s z l) ∧ Vr v (w.heap.size + 1) (pnt x1 y1 f1) ∧ Vr v (w.heap.size + 1 + 1) (pnt x2 y2 f2) ∧ Vr v (w.heap.size + 1 + 1 + 1) (pnt 0 0 false))) ⟨(by repeat (first | exact Gr.refl _ | apply Gr.drewN | apply Gr.drew | apply Gr.alloc | apply Gr.gro)), ⟨by simp [go_sem], by simp [go_sem], by simp [go_sem]⟩, ⟨by simp [go_sem], by simp [go_sem], by simp [go_sem]⟩, ⟨by simp [go_sem], by simp [go_sem], by simp [go_sem]⟩, ⟨by simp [go_sem], by simp [go_sem], by simp [go_sem]⟩⟩ ?_
  intro v0 HV
  obtain ⟨G, c0, c1, c2, c3⟩ := HV.out
  clear HV
  refine wp_wT 7 [.c (.agg (cu id P A B N X Y s z l)), .c (.agg (cu id P A B N X Y s z l)), .c (.agg (pnt x1 y1 f1)), .c (.agg (pnt x1 y1 f1)), .c (.agg (pnt x3 y3 f3)), .c (.agg (pnt x2 y2 f2)), .c (.agg (pnt x4 y4 f4))] [0, 1, 2, 3, 4, 5, 6] ?hs24 ?hf24
  case hs24 =>
   refine .cons (.g 74 0 c0 rfl) ?_
   refine .cons (.g 74 0 c0 rfl) ?_
   refine .cons (.g 27 0 c1 rfl) ?_
   refine .cons (.g 27 0 c1 rfl) ?_
   refine .cons (.k _ fun yy vv hg hh => RtW.of_c (Rt.c (H1.out _))) ?_
   refine .cons (.g 27 0 c2 rfl) ?_
   refine .cons (.k _ fun yy vv hg hh => RtW.of_c (Rt.c (H2.out _))) .nil
  refine .s 27 (fun yy => .pointer (some ⟨w.heap.size + 1 + 1 + 1, 0, none⟩)) (fun yy => .agg (pnt x4 y4 f4)) fun yw1 v1 hg h1 => ?_
  have HT := (c3.gr hg).h
  have FT := (c3.gr hg).f
  refine ⟨setBlk v1 (w.heap.size + 1 + 1 + 1) (pnt x4 y4 f4), by simp [go_sem, exI, HT, FT], ?_⟩
  simp only [FW, putFrom, Act.put, List.setIfInBounds_toArray, List.set_cons_zero, List.set_cons_succ, wvals, kW, List.getD_cons_zero, List.getD_cons_succ, Kw.c]
  clear h1
  replace G := G.trans hg
  replace c0 := c0.gr hg
  replace c1 := c1.gr hg
  replace c2 := c2.gr hg
  replace c3 := c3.gr hg
  clear hg
  go_wp2_with fail
  exact bodyPost_ret (res_one Tryz.results78 (rd_pn (by rfl) (blk_setBlk _ _ _ (by rw [HT]; decide +kernel)))) rfl ⟨rfl, gr_setNew G (by omega)⟩
set_option maxRecDepth 100000 in
set_option maxHeartbeats 800000 in
theorem gdbl_of (id : Int) (P A B N X Y : Nat) (s z : Int) (l : Bool) (x1 y1 x2 y2 x3 y3 : Nat) (f1 f2 f3 : Bool)
    (H1' : ∀ w, Calls Tryz.prog 38 #[.agg (cu id P A B N X Y s z l), .agg (pnt x1 y1 f1), .agg (pnt x1 y1 f1)] w fun e w' => e = .returned (.agg (pnt x3 y3 f3)) ∧ Gr w w') (w : World) :
    Calls Tryz.prog 77 #[.agg (cu id P A B N X Y s z l), .agg (pnt x1 y1 f1), .agg (pnt x2 y2 f2)] w fun e w' => e = .returned (.agg (pnt x3 y3 f3)) ∧ Gr w w' := by
  have H1 : Hid (∀ w, Calls Tryz.prog 38 #[.agg (cu id P A B N X Y s z l), .agg (pnt x1 y1 f1), .agg (pnt x1 y1 f1)] w fun e w' => e = .returned (.agg (pnt x3 y3 f3)) ∧ Gr w w') := H1'
  clear H1'
  go_enter Tryz.func77, Tryz.ntmps77
  go_upto_region 1 with fail
  refine gen_w (fun v => Hid (Gr w v ∧ Vr v (w.heap.size) (cu id P A B N X Y s z l) ∧ Vr v (w.heap.size + 1) (pnt x1 y1 f1) ∧ Vr v (w.heap.size + 1 + 1) (pnt x2 y2 f2) ∧ Vr v (w.heap.size + 1 + 1 + 1) (pnt 0 0 false))) ⟨(by repeat (first | exact Gr.refl _ | apply Gr.drewN | apply Gr.drew | apply Gr.alloc | apply Gr.gro)), ⟨by simp [go_sem], by simp [go_sem], by simp [go_sem]⟩, ⟨by simp [go_sem], by simp [go_sem], by simp [go_sem]⟩, ⟨by simp [go_sem], by simp [go_sem], by simp [go_sem]⟩, ⟨by simp [go_sem], by simp [go_sem], by simp [go_sem]⟩⟩ ?_
  intro v0 HV
  obtain ⟨G, c0, c1, c2, c3⟩ := HV.out
  have k0 : v0.cell? ⟨w.heap.size, 0, none⟩ = some (.int .i64 id) := by rw [c0.cell]; exact cu_0 id P A B N X Y s z l
  have ⟨hh0, ff0, pp0⟩ := c0
  have ⟨p01, p02, p03, p04, p05, p06⟩ := c0.pp
  have ⟨hh1, ff1, pp1⟩ := c1
  have ⟨p11, p12, p13, p14, p15, p16⟩ := c1.pp
  have ⟨hh2, ff2, pp2⟩ := c2
  have ⟨p21, p22, p23, p24, p25, p26⟩ := c2.pp
  have ⟨hh3, ff3, pp3⟩ := c3
  have ⟨p31, p32, p33, p34, p35, p36⟩ := c3.pp
  clear HV c0 c1 c2 c3
  go_wp2_with (first
    | (go_at_call_of 38 ((#[.agg (cu id P A B N X Y s z l), .agg (pnt x1 y1 f1), .agg (pnt x1 y1 f1)] : Array Value)); refine (H1.out _).mono ?_; rintro e w' ⟨rfl, g0, rfl⟩))
  refine bodyPost_ret (res_one Tryz.results77 (rd_pn (by rfl) ?_)) rfl ⟨rfl, ?_⟩
  · simp [go_sem, *]
  · repeat (first | exact G | apply Gr.drewN | apply Gr.drew | apply Gr.alloc | apply Gr.gro | (refine gr_setNew ?_ (by omega)))
attribute [local go_sem ↓] buildN_is
attribute [local go_sem] storePY pnt_setY buildN0
set_option maxRecDepth 100000 in
set_option maxHeartbeats 800000 in
theorem gneg_of (id : Int) (P A B N X Y : Nat) (s z : Int) (l : Bool) (x1 y1 q : Nat) (f1 : Bool)
    (H1' : ∀ w, Calls Tryz.prog 57 #[.agg (cu id P A B N X Y s z l), .agg (nw 9 0), .agg (nw 9 y1)] w fun e w' => e = .returned (.agg (nw 9 q)) ∧ Gr w w') (w : World) :
    Calls Tryz.prog 39 #[.agg (cu id P A B N X Y s z l), .agg (pnt x1 y1 f1)] w fun e w' => e = .returned (.agg (pnt x1 q f1)) ∧ Gr w w' := by
  have H1 : Hid (∀ w, Calls Tryz.prog 57 #[.agg (cu id P A B N X Y s z l), .agg (nw 9 0), .agg (nw 9 y1)] w fun e w' => e = .returned (.agg (nw 9 q)) ∧ Gr w w') := H1'
  clear H1'
  go_enter Tryz.func39, Tryz.ntmps39
  go_upto_region 1 with fail
  refine gen_w (fun v => Hid (Gr w v ∧ Vr v (w.heap.size) (cu id P A B N X Y s z l) ∧ Vr v (w.heap.size + 1) (pnt x1 y1 f1) ∧ Vr v (w.heap.size + 1 + 1) (pnt 0 0 false))) ⟨(by repeat (first | exact Gr.refl _ | apply Gr.drewN | apply Gr.drew | apply Gr.alloc | apply Gr.gro)), ⟨by simp [go_sem], by simp [go_sem], by simp [go_sem]⟩, ⟨by simp [go_sem], by simp [go_sem], by simp [go_sem]⟩, ⟨by simp [go_sem], by simp [go_sem], by simp [go_sem]⟩⟩ ?_
  intro v0 HV
  obtain ⟨G, c0, c1, c2⟩ := HV.out
  have k0 : v0.cell? ⟨w.heap.size, 0, none⟩ = some (.int .i64 id) := by rw [c0.cell]; exact cu_0 id P A B N X Y s z l
  have ⟨hh0, ff0, pp0⟩ := c0
  have ⟨p01, p02, p03, p04, p05, p06⟩ := c0.pp
  have ⟨hh1, ff1, pp1⟩ := c1
  have ⟨p11, p12, p13, p14, p15, p16⟩ := c1.pp
  have ⟨hh2, ff2, pp2⟩ := c2
  have ⟨p21, p22, p23, p24, p25, p26⟩ := c2.pp
  clear HV c0 c1 c2
  go_wp2_with (first
    | (go_at_call_of 57 ((#[.agg (cu id P A B N X Y s z l), .agg (nw 9 0), .agg (nw 9 y1)] : Array Value)); refine (H1.out _).mono ?_; rintro e w' ⟨rfl, g0, rfl⟩))
  refine bodyPost_ret (res_one Tryz.results39 (rd_pn (by rfl) ?_)) rfl ⟨rfl, ?_⟩
  · simp [go_sem, *]
  · repeat (first | exact G | apply Gr.drewN | apply Gr.drew | apply Gr.alloc | apply Gr.gro | (refine gr_setNew ?_ (by omega)))

end Go.Proofs.YtlbkhhihkomahaaGreat
namespace Go.Proofs.YtlbkhhihkomahaaGreat
open Go.RowKit
theorem gdiffF {k : Nat} (h1 : 1 ≤ k) (h2 : k ≤ 15) (a b : Fin (pN k)) (w : World) : Calls Tryz.prog 57 #[.agg (cu (k : Int) (pN k) (aN k) (bN k) (oN k) (xN k) (yN k) (bl (oN k)) (szN k) (lgN k)), .agg (nw 9 a.val), .agg (nw 9 b.val)] w fun e w' => e = .returned (.agg (nw 9 (a - b).val)) ∧ Gr w w' := gdiff_of _ _ _ _ _ _ _ _ _ _ _ _ _ (fsubF h1 h2 a b) w
theorem gprodF {k : Nat} (h1 : 1 ≤ k) (h2 : k ≤ 15) (a b : Fin (pN k)) (w : World) : Calls Tryz.prog 99 #[.agg (cu (k : Int) (pN k) (aN k) (bN k) (oN k) (xN k) (yN k) (bl (oN k)) (szN k) (lgN k)), .agg (nw 9 a.val), .agg (nw 9 b.val)] w fun e w' => e = .returned (.agg (nw 9 (a * b).val)) ∧ Gr w w' := gprod_of _ _ _ _ _ _ _ _ _ _ _ _ _ (fmulF h1 h2 a b) w
theorem gquotF {k : Nat} (h1 : 1 ≤ k) (h2 : k ≤ 15) [NeZero (pN k)] (a b : Fin (pN k)) (hb : b ≠ 0) (w : World) : Calls Tryz.prog 97 #[.agg (cu (k : Int) (pN k) (aN k) (bN k) (oN k) (xN k) (yN k) (bl (oN k)) (szN k) (lgN k)), .agg (nw 9 a.val), .agg (nw 9 b.val)] w fun e w' => e = .returned (.agg (nw 9 (a * EC.iP (pN k) b).val)) ∧ Gr w w' := gquot_of _ _ _ _ _ _ _ _ _ _ _ _ _ _ (finvF h1 h2 b hb) (gprodF h1 h2 a _) w
/-- The sum of the first numbers. -/
def accF {p : Nat} [NeZero p] (F : Nat → Fin p) : Nat → Fin p
  | 0 => 0
  | n + 1 => accF F n + F n
theorem gsumF {k : Nat} (h1 : 1 ≤ k) (h2 : k ≤ 15) [NeZero (pN k)] (F : Nat → Fin (pN k)) (n : Nat) (hn : n ≤ 4) (c : Array Value) (hrow : ∀ i, i < n → c.extract (i * 9) (i * 9 + 9) = nw 9 (F i).val) (hsz : n * 9 ≤ c.size) (b : Nat) (w : World) (hv : Vr w b c) :
    Calls Tryz.prog 100 #[.agg (cu (k : Int) (pN k) (aN k) (bN k) (oN k) (xN k) (yN k) (bl (oN k)) (szN k) (lgN k)), .slice (some ⟨b, 0, none⟩) n n] w fun e w' => e = .returned (.agg (nw 9 (accF F n).val)) ∧ Gr w w' :=
  gsum_of _ _ _ _ _ _ _ _ _ _ n hn (fun i => (F i).val) (fun i => (accF F i).val) c (Fin.val_zero _) hrow hsz (fun _ _ w => faddF h1 h2 _ _ w) b n w hv
theorem gsum2F {k : Nat} (h1 : 1 ≤ k) (h2 : k ≤ 15) [NeZero (pN k)] (x y : Fin (pN k)) (w : World) (b : Nat) (hv : Vr w b (nw 9 x.val ++ nw 9 y.val)) :
    Calls Tryz.prog 100 #[.agg (cu (k : Int) (pN k) (aN k) (bN k) (oN k) (xN k) (yN k) (bl (oN k)) (szN k) (lgN k)), .slice (some ⟨b, 0, none⟩) 2 2] w fun e w' => e = .returned (.agg (nw 9 (x + y).val)) ∧ Gr w w' := by
  have h := gsumF h1 h2 (fun i => match i with | 0 => x | _ => y) 2 (by decide) _ (fun i hi => by
    obtain rfl | rfl : i = 0 ∨ i = 1 := by omega
    · kernel_rfl
    · kernel_rfl) (by simp [nw_size]) b w hv
  rw [show accF (fun i => match i with | 0 => x | _ => y) 2 = x + y by show 0 + x + y = x + y; grobner] at h
  exact h
theorem gsum4F {k : Nat} (h1 : 1 ≤ k) (h2 : k ≤ 15) [NeZero (pN k)] (x y z u : Fin (pN k)) (w : World) (b : Nat) (hv : Vr w b (nw 9 x.val ++ nw 9 y.val ++ nw 9 z.val ++ nw 9 u.val)) :
    Calls Tryz.prog 100 #[.agg (cu (k : Int) (pN k) (aN k) (bN k) (oN k) (xN k) (yN k) (bl (oN k)) (szN k) (lgN k)), .slice (some ⟨b, 0, none⟩) 4 4] w fun e w' => e = .returned (.agg (nw 9 (x + y + z + u).val)) ∧ Gr w w' := by
  have h := gsumF h1 h2 (fun i => match i with | 0 => x | 1 => y | 2 => z | _ => u) 4 (by decide) _ (fun i hi => by
    obtain rfl | rfl | rfl | rfl : i = 0 ∨ i = 1 ∨ i = 2 ∨ i = 3 := by omega
    · kernel_rfl
    · kernel_rfl
    · kernel_rfl
    · kernel_rfl) (by simp [nw_size]) b w hv
  rw [show accF (fun i => match i with | 0 => x | 1 => y | 2 => z | _ => u) 4 = x + y + z + u by show 0 + x + y + z + u = x + y + z + u; grobner] at h
  exact h
theorem galongF {k : Nat} (h1 : 1 ≤ k) (h2 : k ≤ 15) [NeZero (pN k)] (m x1 y1 x2 y2 : Fin (pN k)) (w : World) :
    Calls Tryz.prog 98 #[.agg (cu (k : Int) (pN k) (aN k) (bN k) (oN k) (xN k) (yN k) (bl (oN k)) (szN k) (lgN k)), .agg (nw 9 m.val), .agg (pnt x1.val y1.val false), .agg (pnt x2.val y2.val false)] w fun e w' => e = .returned (.agg (pnt (ex (some (EC.sx m x1 x2, EC.sy m x1 y1 (EC.sx m x1 x2)))) (ey (some (EC.sx m x1 x2, EC.sy m x1 y1 (EC.sx m x1 x2)))) (ef (some (EC.sx m x1 x2, EC.sy m x1 y1 (EC.sx m x1 x2)))))) ∧ Gr w w' := by
  have e : m * m - (x1 + x2) = EC.sx m x1 x2 := by unfold EC.sx; grobner
  have h3 := gdiffF h1 h2 (m * m) (x1 + x2)
  rw [e] at h3
  exact galong_of _ _ _ _ _ _ _ _ _ _ _ _ _ _ _ _ _ _ _ _ _ (gprodF h1 h2 m m) h3 (gdiffF h1 h2 x1 _) (gprodF h1 h2 m _) (gdiffF h1 h2 _ y1) (gsum2F h1 h2 x1 x2) w
theorem gadd_any {k : Nat} (h1 : 1 ≤ k) (h2 : k ≤ 15) [NeZero (pN k)] (Q1 Q2 : Option (Fin (pN k) × Fin (pN k))) (w : World) :
    Calls Tryz.prog 38 #[.agg (cu (k : Int) (pN k) (aN k) (bN k) (oN k) (xN k) (yN k) (bl (oN k)) (szN k) (lgN k)), .agg (pnt (ex Q1) (ey Q1) (ef Q1)), .agg (pnt (ex Q2) (ey Q2) (ef Q2))] w fun e w' => e = .returned (.agg (pnt (ex (EC.pl (EC.iP (pN k)) (EC.aF k h1 h2) Q1 Q2)) (ey (EC.pl (EC.iP (pN k)) (EC.aF k h1 h2) Q1 Q2)) (ef (EC.pl (EC.iP (pN k)) (EC.aF k h1 h2) Q1 Q2)))) ∧ Gr w w' := by
  have C := EC.curN k h1 h2
  have hM := pN_M k
  have z : (0 : Fin (pN k)).val = 0 := Fin.val_zero _
  have eqF : ∀ a b : Fin (pN k), eqN 9 a.val b.val = decide (a = b) := fun a b => by
    rw [eqN9 _ _ (Nat.lt_trans a.isLt hM) (Nat.lt_trans b.isLt hM)]
    exact decide_eq_decide.2 Fin.ext_iff.symm
  match Q1, Q2 with
  | none, Q2 => exact gadd_0 _ _ _ _ _ _ _ _ _ _ _ _ _ _ _ _ _ _ _ (rel_0 _ _ _ _ _) (gright_any _ _ _ _ _ _ _ _ _ _ _ _ _ _ _ _) w
  | some (x1, y1), none => exact gadd_1 _ _ _ _ _ _ _ _ _ _ _ _ _ _ _ _ _ _ _ (rel_1 _ _ _ _) (gleft_any _ _ _ _ _ _ _ _ _ _ _ _ _ _ _ _) w
  | some (x1, y1), some (x2, y2) =>
    by_cases hx : x1 = x2
    · subst hx
      have e1 : eqN 9 x1.val x1.val = true := eqN_self _ _
      by_cases hy : y1 = y2
      · subst hy
        have e2 : eqN 9 y1.val y1.val = true := eqN_self _ _
        by_cases h0 : y1 = 0
        · have e : EC.pl (EC.iP (pN k)) (EC.aF k h1 h2) (some (x1, y1)) (some (x1, y1)) = none := by simp [EC.pl, h0]
          rw [e]
          exact gadd_4 _ _ _ _ _ _ _ _ _ _ _ _ _ _ _ _ _ _ _ (rel_5 _ _ _ _ e1 e2 (z ▸ (eqF y1 0).trans (decide_eq_true h0))) (ginf_any _ _ _ _ _ _ _ _ _ _ _ _ _ _ _ _) w
        · have hs : y1 + y1 ≠ 0 := fun h => h0 (C.dbl h)
          have e : EC.pl (EC.iP (pN k)) (EC.aF k h1 h2) (some (x1, y1)) (some (x1, y1)) = some (EC.sx ((x1 * x1 + (x1 * x1 + x1 * x1) + EC.aF k h1 h2) * EC.iP (pN k) (y1 + y1)) x1 x1, EC.sy ((x1 * x1 + (x1 * x1 + x1 * x1) + EC.aF k h1 h2) * EC.iP (pN k) (y1 + y1)) x1 y1 (EC.sx ((x1 * x1 + (x1 * x1 + x1 * x1) + EC.aF k h1 h2) * EC.iP (pN k) (y1 + y1)) x1 x1)) := by simp [EC.pl, h0]
          rw [e]
          have h4 := gsum4F h1 h2 (x1 * x1) (x1 * x1) (x1 * x1) (EC.aF k h1 h2)
          rw [show x1 * x1 + x1 * x1 + x1 * x1 + EC.aF k h1 h2 = x1 * x1 + (x1 * x1 + x1 * x1) + EC.aF k h1 h2 by grobner] at h4
          exact gadd_3 _ _ _ _ _ _ _ _ _ _ _ _ _ _ _ _ _ _ _ (rel_3 _ _ _ _ e1 e2 (z ▸ (eqF y1 0).trans (decide_eq_false h0))) (gtang_of _ _ _ _ _ _ _ _ _ _ _ _ _ _ _ _ _ _ _ _ (gprodF h1 h2 x1 x1) (gquotF h1 h2 _ _ hs) h4 (gsum2F h1 h2 y1 y1) (galongF h1 h2 _ x1 y1 x1 y1)) w
      · have e : EC.pl (EC.iP (pN k)) (EC.aF k h1 h2) (some (x1, y1)) (some (x1, y2)) = none := by simp [EC.pl, hy]
        rw [e]
        exact gadd_4 _ _ _ _ _ _ _ _ _ _ _ _ _ _ _ _ _ _ _ (rel_4 _ _ _ _ e1 ((eqF y1 y2).trans (decide_eq_false hy))) (ginf_any _ _ _ _ _ _ _ _ _ _ _ _ _ _ _ _) w
    · have hs : x2 - x1 ≠ 0 := fun h => hx (EC.sub_zero_of h).symm
      have e : EC.pl (EC.iP (pN k)) (EC.aF k h1 h2) (some (x1, y1)) (some (x2, y2)) = some (EC.sx ((y2 - y1) * EC.iP (pN k) (x2 - x1)) x1 x2, EC.sy ((y2 - y1) * EC.iP (pN k) (x2 - x1)) x1 y1 (EC.sx ((y2 - y1) * EC.iP (pN k) (x2 - x1)) x1 x2)) := by simp [EC.pl, hx]
      rw [e]
      exact gadd_2 _ _ _ _ _ _ _ _ _ _ _ _ _ _ _ _ _ _ _ (rel_2 _ _ _ _ ((eqF x1 x2).trans (decide_eq_false hx))) (gchord_of _ _ _ _ _ _ _ _ _ _ _ _ _ _ _ _ _ _ _ (gdiffF h1 h2 y2 y1) (gdiffF h1 h2 x2 x1) (gquotF h1 h2 _ _ hs) (galongF h1 h2 _ x1 y1 x2 y2)) w
theorem gaddQ {k : Nat} (h1 : 1 ≤ k) (h2 : k ≤ 15) {P Q R : Q3} (hP : OnQ k P) (hQ : OnQ k Q) (hR : plQ k P Q = R) (w : World) :
    Calls Tryz.prog 38 #[.agg (cu (k : Int) (pN k) (aN k) (bN k) (oN k) (xN k) (yN k) (bl (oN k)) (szN k) (lgN k)), .agg (pnQ P), .agg (pnQ Q)] w fun e w' => e = .returned (.agg (pnQ R)) ∧ Gr w w' := by
  haveI := EC.nzP k h1 h2
  obtain ⟨a1, a2, a3⟩ := dec3 hP
  obtain ⟨b1, b2, b3⟩ := dec3 hQ
  have h := gadd_any h1 h2 (decQ (pN k) P) (decQ (pN k) Q) w
  rw [a1, a2, a3, b1, b2, b3] at h
  rw [← hR, plQ_is h1 h2]
  exact h
theorem gnegQ {k : Nat} (h1 : 1 ≤ k) (h2 : k ≤ 15) {P R : Q3} (hP : OnQ k P) (hR : ngQ k P = R) (w : World) :
    Calls Tryz.prog 39 #[.agg (cu (k : Int) (pN k) (aN k) (bN k) (oN k) (xN k) (yN k) (bl (oN k)) (szN k) (lgN k)), .agg (pnQ P)] w fun e w' => e = .returned (.agg (pnQ R)) ∧ Gr w w' := by
  haveI := EC.nzP k h1 h2
  have z : (0 : Fin (pN k)).val = 0 := Fin.val_zero _
  rw [← hR, ngQ_is h1 h2]
  obtain ⟨a1, a2, a3⟩ := dec3 hP
  rw [show pnQ P = pnt (ex (decQ (pN k) P)) (ey (decQ (pN k) P)) (ef (decQ (pN k) P)) by rw [a1, a2, a3]]
  match decQ (pN k) P with
  | none =>
    have h := gdiffF h1 h2 0 0
    rw [show (0 : Fin (pN k)) - 0 = 0 by grobner, z] at h
    exact gneg_of _ _ _ _ _ _ _ _ _ _ _ _ _ _ h w
  | some (x, y) =>
    have h := gdiffF h1 h2 0 y
    rw [show (0 : Fin (pN k)) - y = -y by grobner, z] at h
    exact gneg_of _ _ _ _ _ _ _ _ _ _ _ _ _ _ h w
theorem gdblQ {k : Nat} (h1 : 1 ≤ k) (h2 : k ≤ 15) {P Q R : Q3} (hP : OnQ k P) (hR : plQ k P P = R) (w : World) :
    Calls Tryz.prog 77 #[.agg (cu (k : Int) (pN k) (aN k) (bN k) (oN k) (xN k) (yN k) (bl (oN k)) (szN k) (lgN k)), .agg (pnQ P), .agg (pnQ Q)] w fun e w' => e = .returned (.agg (pnQ R)) ∧ Gr w w' := gdbl_of _ _ _ _ _ _ _ _ _ _ _ _ _ _ _ _ _ _ _ (gaddQ h1 h2 hP hP hR) w
theorem gdbladdQ {k : Nat} (h1 : 1 ≤ k) (h2 : k ≤ 15) {P Q R T : Q3} (hP : OnQ k P) (hQ : OnQ k Q) (hR : plQ k P P = R) (hT : plQ k R Q = T) (w : World) :
    Calls Tryz.prog 78 #[.agg (cu (k : Int) (pN k) (aN k) (bN k) (oN k) (xN k) (yN k) (bl (oN k)) (szN k) (lgN k)), .agg (pnQ P), .agg (pnQ Q)] w fun e w' => e = .returned (.agg (pnQ T)) ∧ Gr w w' := gdbladd_of _ _ _ _ _ _ _ _ _ _ _ _ _ _ _ _ _ _ _ _ _ _ (gaddQ h1 h2 hP hP hR) (gaddQ h1 h2 (hR ▸ plQ_on h1 h2 hP hP) hQ hT) w

end Go.Proofs.YtlbkhhihkomahaaGreat
namespace Go.Proofs.YtlbkhhihkomahaaGreat
open Go.RowKit
attribute [local go_sem ↓] loadNat_is loadArr_is loadWide_is loadArrW_is storeNat_is storeWide_is
attribute [local go_sem] loadNat loadArr loadWide loadArrW storeNat storeWide idxArr fold9 fold18 nw_size nw_elem pre_self pre_1 pre_2 pre_3 pre_4 pre_5 pre_6 pre_7 pre_8 pre_9 pre_10 pre_11 pre_12 pre_13 pre_14 pre_15 pre_16 pre_17 pre_18 pre_19 pre_20 pre_21 pre_22 pre_23 pre_24 pre_25 pre_26 pre_27 pre_28 pre_29 pre_30 pre_31 pre_32 pre_33 pre_34 pre_35 pre_36 pre_37 pre_38 pre_39 pre_40 gro_size gro_drew gro_drewN drew_gro drewN_gro gro_gro blk_gro frz_gro blk_drew frz_drew blk_drewN frz_drewN blk_alloc_at frz_alloc_at blk_alloc frz_alloc cell_gro frozen_gro cell_alloc_pre frozen_alloc_pre setCell_drewN alloc_drewN setBlk_drew setBlk_drewN setBlk_alloc_at setBlk_alloc setBlk_gro setCell_gro setCell_alloc_pre size_setBlk size_setCell
attribute [local go_sem] ppre_1 ppre_2 ppre_3 ppre_4 ppre_5 ppre_6
attribute [local go_sem ↓] loadGp_is storeGp_is zvGp_is buildGp_is storeTA_is storeTB_is buildTA_is buildTB_is zvCu_is storeCu_is loadCu_is loadPn_is storePn_is zvPn_is buildCu_is buildPn_is Go.wp_at_zero Go.wp_at_succ
attribute [local go_sem] loadGp storeGp zvGp buildGp0 buildGp1 buildPn0 storeTA storeTB buildTA buildTB tabA_size tabB_size zvCu storeCu loadCu loadPn storePn zvPn loadCP loadCA loadPX loadPY buildPnI buildPn2 cu_size cu_P cu_A pnt_size pnt_X pnt_Y frz_setBlk blk_setBlk setBlk_setBlk blk_other
set_option maxRecDepth 100000 in
set_option maxHeartbeats 1600000 in
theorem gmulQ {k : Nat} (h1 : 1 ≤ k) (h2 : k ≤ 15) {P : Q3} (hP : OnQ k P) (t : Nat) (ht : t < M) (w : World) :
    Calls Tryz.prog 44 #[.agg (cu (k : Int) (pN k) (aN k) (bN k) (oN k) (xN k) (yN k) (bl (oN k)) (szN k) (lgN k)), .agg (nw 9 t), .agg (pnt P.1 P.2.1 P.2.2)] w fun e w' => e = .returned (.agg (pnQ (mlQ k t P))) ∧ Gr w w' := by
  obtain ⟨L, hL⟩ : ∃ L, bl t = L := ⟨_, rfl⟩
  have hL1 : (L : Int) ≤ 576 := by have := bl_576 t ht; omega
  have hL0 : (0 : Int) ≤ (L : Int) := by omega
  have HB : Hid (∀ w, Calls Tryz.prog 59 #[.agg (nw 9 t)] w fun e w' => e = .returned (.int .i64 (L : Int)) ∧ Gr w w') := fun w => hL ▸ bits_any t ht w
  have HZ : Hid (Unit → t / 2 ^ L = 0) := fun _ => Nat.div_eq_of_lt (hL ▸ (bl_le t (bl t)).1 (Nat.le_refl _))
  have HLk : Hid (Unit → L ≤ 576) := fun _ => by omega
  clear hL ht
  go_enter Tryz.func44, Tryz.ntmps44
  go_upto_region 1 with fail
  refine gen_w (fun wr => Hid (Gr w wr ∧ Vr wr (w.heap.size) (cu (k : Int) (pN k) (aN k) (bN k) (oN k) (xN k) (yN k) (bl (oN k)) (szN k) (lgN k)) ∧ Vr wr (w.heap.size + 1) (nw 9 t) ∧ Vr wr (w.heap.size + 1 + 1) (pnt P.1 P.2.1 P.2.2) ∧ Vr wr (w.heap.size + 1 + 1 + 1) (pnt 0 0 false) ∧ wr.heap.size = w.heap.size + 1 + 1 + 1 + 1)) ⟨(by repeat (first | exact Gr.refl _ | apply Gr.drewN | apply Gr.drew | apply Gr.alloc | apply Gr.gro)), ⟨by simp [go_sem], by simp [go_sem], by simp [go_sem]⟩, ⟨by simp [go_sem], by simp [go_sem], by simp [go_sem]⟩, ⟨by simp [go_sem], by simp [go_sem], by simp [go_sem]⟩, ⟨by simp [go_sem], by simp [go_sem], by simp [go_sem]⟩, by simp⟩ ?_
  intro v0 HV
  obtain ⟨G, c0, c1, c2, c3, hsz⟩ := HV.out
  have ⟨hh0, ff0, pp0⟩ := c0
  have ⟨hh1, ff1, pp1⟩ := c1
  have ⟨p11, p12, p13, p14, p15, p16⟩ := c1.pp
  clear HV
  go_upto_region 3 with (go_at_call 59; refine (HB.out _).mono ?_; rintro e w' ⟨rfl, g, rfl⟩)
  refine gen_w (fun wr => Hid (Gr w wr ∧ Vr wr (w.heap.size) (cu (k : Int) (pN k) (aN k) (bN k) (oN k) (xN k) (yN k) (bl (oN k)) (szN k) (lgN k)) ∧ Vr wr (w.heap.size + 1) (nw 9 t) ∧ Vr wr (w.heap.size + 1 + 1) (pnt P.1 P.2.1 P.2.2) ∧ Vr wr (w.heap.size + 1 + 1 + 1) (pnt 0 0 false) ∧ Vr wr (w.heap.size + 1 + 1 + 1 + 1) (pnt inf.1 inf.2.1 inf.2.2))) ?_ ?_
  · have hG : Gr v0 (gro (v0.alloc (.cells (pnt 0 0 true) 27)) g) := (by repeat (first | exact Gr.refl _ | apply Gr.drewN | apply Gr.drew | apply Gr.alloc | apply Gr.gro))
    have hn : Vr (gro (v0.alloc (.cells (pnt 0 0 true) 27)) g) v0.heap.size (pnt 0 0 true) := (Vr.new v0 _ _).gr (by repeat (first | exact Gr.refl _ | apply Gr.drewN | apply Gr.drew | apply Gr.alloc | apply Gr.gro))
    rw [hsz] at hn
    exact ⟨G.trans hG, c0.gr hG, c1.gr hG, c2.gr hG, c3.gr hG, hn⟩
  intro v1 HV
  clear HB
  go_loopw [8] (fun ia wr => ∃ j : Nat, ia = .int .i64 ((j : Int) - 1) ∧ Hid (Unit → j ≤ L) ∧ Hid (Gr w wr ∧ Vr wr (w.heap.size) (cu (k : Int) (pN k) (aN k) (bN k) (oN k) (xN k) (yN k) (bl (oN k)) (szN k) (lgN k)) ∧ Vr wr (w.heap.size + 1) (nw 9 t) ∧ Vr wr (w.heap.size + 1 + 1) (pnt P.1 P.2.1 P.2.2) ∧ Vr wr (w.heap.size + 1 + 1 + 1) (pnt 0 0 false) ∧ Vr wr (w.heap.size + 1 + 1 + 1 + 1) (pnt (mlQ k (t / 2 ^ j) P).1 (mlQ k (t / 2 ^ j) P).2.1 (mlQ k (t / 2 ^ j) P).2.2))) (fun ia _ => (intOf ia + 1).toNat)
  case atStart =>
    refine ⟨L, rfl, fun _ => Nat.le_refl _, ?_⟩
    rw [HZ.out (), mlQ_zero h1 h2]
    exact HV
  case round =>
    clear HV
    obtain ⟨j, rfl, HJ, HR⟩ := hrel
    by_cases hpos : 0 < j
    · obtain ⟨i0, rfl⟩ : ∃ i, j = i + 1 := ⟨j - 1, by omega⟩
      have e1 : (((i0 + 1 : Nat) : Int) - 1) = (i0 : Int) := by omega
      rw [e1]
      have j0 : (0 : Int) ≤ (i0 : Int) := by omega
      have j1 : (i0 : Int) < 576 := by have := HJ.out (); have := HLk.out (); omega
      have HJ2 : i0 ≤ L := by have := HJ.out (); omega
      have hi0 : i0 < 576 := by omega
      obtain ⟨R, hR⟩ : ∃ R, mlQ k (t / 2 ^ (i0 + 1)) P = R := ⟨_, rfl⟩
      obtain ⟨R1, hR1⟩ : ∃ R1, plQ k R R = R1 := ⟨_, rfl⟩
      obtain ⟨T, hT⟩ : ∃ T, plQ k R1 P = T := ⟨_, rfl⟩
      have hRon : OnQ k R := hR ▸ mlQ_on h1 h2 _ hP
      rw [hR] at HR
      obtain ⟨G, c0, c1, c2, c3, c4⟩ := HR.out
      have hdiv : ∀ b, t / 2 ^ i0 % 2 = b → t / 2 ^ i0 = t / 2 ^ (i0 + 1) + t / 2 ^ (i0 + 1) + b := fun b hb => by
        rw [Nat.pow_succ, ← Nat.div_div_eq_div_mul]; omega
      have h12 : mlQ k (t / 2 ^ (i0 + 1) + t / 2 ^ (i0 + 1)) P = R1 := by rw [mlQ_add h1 h2 _ _ hP, hR, hR1]
      have hbt := bit_any t i0 hi0
      clear HR HJ hpos e1
      obtain hb | hb : t / 2 ^ i0 % 2 = 0 ∨ t / 2 ^ i0 % 2 = 1 := by omega
      · have hR3 : R1 = mlQ k (t / 2 ^ i0) P := by rw [hdiv 0 hb, Nat.add_zero, h12]
        have HB : Hid (∀ w, Calls Tryz.prog 61 #[.agg (nw 9 t), .int .i64 (i0 : Int)] w fun e w' => e = .returned (.int .i64 0) ∧ Gr w w') := by
          rw [show bitN t i0 = 0 from hb] at hbt
          exact hbt
        have HS : Hid (∀ w, Calls Tryz.prog 77 #[.agg (cu (k : Int) (pN k) (aN k) (bN k) (oN k) (xN k) (yN k) (bl (oN k)) (szN k) (lgN k)), .agg (pnt R.1 R.2.1 R.2.2), .agg (pnt P.1 P.2.1 P.2.2)] w fun e w' => e = .returned (.agg (pnt R1.1 R1.2.1 R1.2.2)) ∧ Gr w w') := fun w => gdblQ h1 h2 hRon hR1 w
        clear hb h12 hdiv hbt hi0
        go_upto_region 5 with fail
        refine wp_wT 9 [.c (.agg tabB), .c (.agg (nw 9 t)), .c (.int .i64 (i0 : Int)), .c (.int .i64 0), .c (.func (.func 77) #[] #[]), .c (.agg (cu (k : Int) (pN k) (aN k) (bN k) (oN k) (xN k) (yN k) (bl (oN k)) (szN k) (lgN k))), .c (.agg (pnt R.1 R.2.1 R.2.2)), .c (.agg (pnt P.1 P.2.1 P.2.2)), .c (.agg (pnt R1.1 R1.2.1 R1.2.2))] [0, 1, 3, 5, 6, 7, 8] ?hs1 ?hf1
        case hs1 =>
         refine .cons (.k _ fun yy vv hg hh => RtW.of_c (Rt.c (toProduct_any _))) ?_
         refine .cons (.g 25 0 c1 rfl) ?_
         refine .cons (.k _ fun yy vv hg hh => RtW.of_c (Rt.c (HB.out _))) ?_
         refine .cons (.g 74 0 c0 rfl) ?_
         refine .cons (.g 27 0 c4 rfl) ?_
         refine .cons (.g 27 0 c2 rfl) ?_
         refine .cons (.k _ fun yy vv hg hh => RtW.of_c (Rt.c (HS.out _))) .nil
        refine .s 27 (fun yy => .pointer (some ⟨w.heap.size + 1 + 1 + 1 + 1, 0, none⟩)) (fun yy => .agg (pnt R1.1 R1.2.1 R1.2.2)) fun yw5 v1 hg h5 => ?_
        have HT := (c4.gr hg).h
        have FT := (c4.gr hg).f
        refine ⟨setBlk v1 (w.heap.size + 1 + 1 + 1 + 1) (pnt R1.1 R1.2.1 R1.2.2), by simp [go_sem, exI, HT, FT], ?_⟩
        simp only [FW, putFrom, Act.put, List.setIfInBounds_toArray, List.set_cons_zero, List.set_cons_succ, wvals, kW, List.getD_cons_zero, List.getD_cons_succ, Kw.c]
        clear h5
        replace G := G.trans hg
        replace c0 := c0.gr hg
        replace c1 := c1.gr hg
        replace c2 := c2.gr hg
        replace c3 := c3.gr hg
        replace c4 := c4.gr hg
        clear hg
        go_wp2_with fail
        go_roundw
        case rel =>
          refine ⟨i0, by simp, fun _ => HJ2, ?_⟩
          rw [← hR3]
          exact ⟨gr_setNew G (by omega), c0.other (by omega), c1.other (by omega), c2.other (by omega), c3.other (by omega), c4.set (by rw [pnt_size]; decide) _⟩
        case measure => simp [intOf]
      · have hR3 : T = mlQ k (t / 2 ^ i0) P := by rw [hdiv 1 hb, mlQ_add h1 h2 _ _ hP, h12, mlQ_one h1 h2 hP, hT]
        have HB : Hid (∀ w, Calls Tryz.prog 61 #[.agg (nw 9 t), .int .i64 (i0 : Int)] w fun e w' => e = .returned (.int .i64 1) ∧ Gr w w') := by
          rw [show bitN t i0 = 1 from hb] at hbt
          exact hbt
        have HS : Hid (∀ w, Calls Tryz.prog 78 #[.agg (cu (k : Int) (pN k) (aN k) (bN k) (oN k) (xN k) (yN k) (bl (oN k)) (szN k) (lgN k)), .agg (pnt R.1 R.2.1 R.2.2), .agg (pnt P.1 P.2.1 P.2.2)] w fun e w' => e = .returned (.agg (pnt T.1 T.2.1 T.2.2)) ∧ Gr w w') := fun w => gdbladdQ h1 h2 hRon hP hR1 hT w
        clear hb h12 hdiv hbt hi0
        go_upto_region 5 with fail
        refine wp_wT 9 [.c (.agg tabB), .c (.agg (nw 9 t)), .c (.int .i64 (i0 : Int)), .c (.int .i64 1), .c (.func (.func 78) #[] #[]), .c (.agg (cu (k : Int) (pN k) (aN k) (bN k) (oN k) (xN k) (yN k) (bl (oN k)) (szN k) (lgN k))), .c (.agg (pnt R.1 R.2.1 R.2.2)), .c (.agg (pnt P.1 P.2.1 P.2.2)), .c (.agg (pnt T.1 T.2.1 T.2.2))] [0, 1, 3, 5, 6, 7, 8] ?hs2 ?hf2
        case hs2 =>
         refine .cons (.k _ fun yy vv hg hh => RtW.of_c (Rt.c (toProduct_any _))) ?_
         refine .cons (.g 25 0 c1 rfl) ?_
         refine .cons (.k _ fun yy vv hg hh => RtW.of_c (Rt.c (HB.out _))) ?_
         refine .cons (.g 74 0 c0 rfl) ?_
         refine .cons (.g 27 0 c4 rfl) ?_
         refine .cons (.g 27 0 c2 rfl) ?_
         refine .cons (.k _ fun yy vv hg hh => RtW.of_c (Rt.c (HS.out _))) .nil
        refine .s 27 (fun yy => .pointer (some ⟨w.heap.size + 1 + 1 + 1 + 1, 0, none⟩)) (fun yy => .agg (pnt T.1 T.2.1 T.2.2)) fun yw5 v1 hg h5 => ?_
        have HT := (c4.gr hg).h
        have FT := (c4.gr hg).f
        refine ⟨setBlk v1 (w.heap.size + 1 + 1 + 1 + 1) (pnt T.1 T.2.1 T.2.2), by simp [go_sem, exI, HT, FT], ?_⟩
        simp only [FW, putFrom, Act.put, List.setIfInBounds_toArray, List.set_cons_zero, List.set_cons_succ, wvals, kW, List.getD_cons_zero, List.getD_cons_succ, Kw.c]
        clear h5
        replace G := G.trans hg
        replace c0 := c0.gr hg
        replace c1 := c1.gr hg
        replace c2 := c2.gr hg
        replace c3 := c3.gr hg
        replace c4 := c4.gr hg
        clear hg
        go_wp2_with fail
        go_roundw
        case rel =>
          refine ⟨i0, by simp, fun _ => HJ2, ?_⟩
          rw [← hR3]
          exact ⟨gr_setNew G (by omega), c0.other (by omega), c1.other (by omega), c2.other (by omega), c3.other (by omega), c4.set (by rw [pnt_size]; decide) _⟩
        case measure => simp [intOf]
    · obtain rfl : j = 0 := by omega
      rw [Nat.pow_zero, Nat.div_one] at HR
      obtain ⟨R, hR⟩ : ∃ R, mlQ k t P = R := ⟨_, rfl⟩
      rw [hR] at HR
      obtain ⟨G, c0, c1, c2, c3, c4⟩ := HR.out
      have ⟨h3, f3, p3⟩ := c3
      have ⟨h4, f4, p4⟩ := c4
      clear HR HJ hpos
      go_wp2_with fail
      refine bodyPost_ret (res_one Tryz.results44 (rd_pn (x := R.1) (y := R.2.1) (f := R.2.2) (by rfl) ?_)) rfl ⟨by rw [hR], gr_setNew G (by omega)⟩
      simp [go_sem, h3]

end Go.Proofs.YtlbkhhihkomahaaGreat
namespace Go.Proofs.YtlbkhhihkomahaaGreat
open Go.RowKit
attribute [local go_sem ↓] loadNat_is loadArr_is loadWide_is loadArrW_is storeNat_is storeWide_is
attribute [local go_sem] loadNat loadArr loadWide loadArrW storeNat storeWide idxArr fold9 fold18 nw_size nw_elem pre_self pre_1 pre_2 pre_3 pre_4 pre_5 pre_6 pre_7 pre_8 pre_9 pre_10 pre_11 pre_12 pre_13 pre_14 pre_15 pre_16 pre_17 pre_18 pre_19 pre_20 pre_21 pre_22 pre_23 pre_24 pre_25 pre_26 pre_27 pre_28 pre_29 pre_30 pre_31 pre_32 pre_33 pre_34 pre_35 pre_36 pre_37 pre_38 pre_39 pre_40 gro_size gro_drew gro_drewN drew_gro drewN_gro gro_gro blk_gro frz_gro blk_drew frz_drew blk_drewN frz_drewN blk_alloc_at frz_alloc_at blk_alloc frz_alloc cell_gro frozen_gro cell_alloc_pre frozen_alloc_pre setCell_drewN alloc_drewN setBlk_drew setBlk_drewN setBlk_alloc_at setBlk_alloc setBlk_gro setCell_gro setCell_alloc_pre size_setBlk size_setCell
attribute [local go_sem] ppre_1 ppre_2 ppre_3 ppre_4 ppre_5 ppre_6
attribute [local go_sem ↓] loadGp_is storeGp_is zvGp_is buildGp_is storeTA_is storeTB_is buildTA_is buildTB_is zvCu_is storeCu_is loadCu_is loadPn_is storePn_is zvPn_is buildCu_is buildPn_is Go.wp_at_zero Go.wp_at_succ
attribute [local go_sem] loadGp storeGp zvGp buildGp0 buildGp1 buildPn0 storeTA storeTB buildTA buildTB tabA_size tabB_size zvCu storeCu loadCu loadPn storePn zvPn loadCP loadCA loadPX loadPY buildPnI buildPn2 cu_size cu_P cu_A pnt_size pnt_X pnt_Y frz_setBlk blk_setBlk setBlk_setBlk blk_other
set_option maxRecDepth 100000 in
set_option maxHeartbeats 1600000 in
theorem gf_yes {k : Nat} (h1 : 1 ≤ k) (h2 : k ≤ 15) (n : Nat) (hn : n ≤ 2) (F : Nat → Q3) (hF : ∀ i, i < n → (F i).1 < M ∧ (F i).2.1 < M) (c : Array Value) (hrow : ∀ i, i < n → c.extract (i * 19) (i * 19 + 19) = pnQ (F i)) (hsz : n * 19 ≤ c.size) (hon : ∀ i, i < n → onB k (F i).1 (F i).2.1 (F i).2.2 = true) (b cap : Nat) (w : World) (hv : Vr w b c) :
    Calls Tryz.prog 37 #[.int .i64 (k : Int), .slice (some ⟨b, 0, none⟩) n cap] w fun e w' => e = .returned (.tuple #[.agg (cu (k : Int) (pN k) (aN k) (bN k) (oN k) (xN k) (yN k) (bl (oN k)) (szN k) (lgN k)), .int .i64 0]) ∧ Gr w w' := by
  have HG : Hid (∀ w, Calls Tryz.prog 25 #[.int .i64 (k : Int)] w fun e w' => e = .returned (.tuple #[.agg (cu (k : Int) (pN k) (aN k) (bN k) (oN k) (xN k) (yN k) (bl (oN k)) (szN k) (lgN k)), .int .i64 0]) ∧ Gr w w') := fun w => get13_yes k h1 h2 w
  have HN : Hid (Unit → n ≤ 2) := fun _ => hn
  have HB : Hid (∀ i, i < n → (F i).1 < M ∧ (F i).2.1 < M) := hF
  have HO : Hid (∀ i, i < n → onB k (F i).1 (F i).2.1 (F i).2.2 = true) := hon
  have HL : Hid (∀ j, j < n → ∀ v, Gr w v → (loadS 27 (.pointer (some ⟨b, j * 19, none⟩))).run Tryz.prog v = .ok (.agg (pnt (F j).1 (F j).2.1 (F j).2.2)) v) := fun j hj v g => by
    have hb := (hv.gr g).h
    rw [loadPartP v b (j * 19) (by rw [hb]; omega), hb, hrow j hj]
  clear hn hF hrow hsz hon
  go_enter Tryz.func37, Tryz.ntmps37
  go_wp2_with (go_at_call 25; refine (HG.out _).mono ?_; rintro e WA ⟨rfl, GA⟩)
  obtain ⟨e6, he6⟩ : ∃ b, WA.heap.size = b := ⟨_, rfl⟩
  simp only [he6]
  refine gen_w (fun wr => Hid (Gr w wr ∧ Vr wr (w.heap.size) (cu 0 0 0 0 0 0 0 0 0 false) ∧ Vr wr e6 (cu (k : Int) (pN k) (aN k) (bN k) (oN k) (xN k) (yN k) (bl (oN k)) (szN k) (lgN k)))) ?_ ?_
  · subst he6
    exact ⟨(((Gr.refl w).alloc _).trans GA).alloc _, ((Vr.new w _ _).gr GA).gr ((Gr.refl _).alloc _), Vr.new WA _ _⟩
  have hne : w.heap.size < e6 := by have := GA.below.size; simp at this; omega
  have hne2 : ¬ (w.heap.size = e6) := by omega
  have hne3 : ¬ (e6 = w.heap.size) := by omega
  clear he6 GA HG
  intro v0 HV
  go_loopw [20] (fun ia wr => ∃ j : Nat, ia = .int .i64 (j : Int) ∧ Hid (Unit → j ≤ n) ∧ Hid (Gr w wr ∧ Vr wr (w.heap.size) (cu 0 0 0 0 0 0 0 0 0 false) ∧ Vr wr e6 (cu (k : Int) (pN k) (aN k) (bN k) (oN k) (xN k) (yN k) (bl (oN k)) (szN k) (lgN k)))) (fun ia _ => ((n : Int) - intOf ia).toNat)
  case atStart => exact ⟨0, rfl, fun _ => Nat.zero_le _, HV⟩
  case round =>
    clear HV
    obtain ⟨j, rfl, HJ, HV⟩ := hrel
    obtain ⟨G, c0, c6⟩ := HV.out
    have j0 : (0 : Int) ≤ (j : Int) := by omega
    have n4 : (n : Int) ≤ 2 := by have := HN.out (); omega
    have ⟨hh0, ff0, pp0⟩ := c0
    have ⟨hh6, ff6, pp6⟩ := c6
    have ⟨p01, p02, p03, p04, p05, p06⟩ := c0.pp
    have ⟨p61, p62, p63, p64, p65, p66⟩ := c6.pp
    by_cases hlt : j < n
    · have hjn : j < n := by exact hlt
      have j1 : (j : Int) < (n : Int) := by omega
      have ld0 := HL.out j hjn wr G
      have HO2 : Hid (∀ w, Calls Tryz.prog 26 #[.int .i64 (k : Int), .agg (pnt (F j).1 (F j).2.1 (F j).2.2)] w fun e w' => e = .returned (.bool true) ∧ Gr w w') := fun w => by
        have := on13_yes k h1 h2 _ _ (F j).2.2 (HB.out j hjn).1 (HB.out j hjn).2 w
        rw [HO.out j hlt] at this
        exact this
      clear HV c0 c6 hjn
      go_wp2_with (go_at_call 26; refine (HO2.out _).mono ?_; rintro e w' ⟨rfl, g, rfl⟩)
      go_roundw
      case rel =>
        refine ⟨j + 1, by go_num, fun _ => hlt, ?_, ⟨by simp [go_sem, *], by simp [go_sem, *], by simp [go_sem, *]⟩, ⟨by simp [go_sem, *], by simp [go_sem, *], by simp [go_sem, *]⟩⟩
        repeat (first | exact G | apply Gr.drewN | apply Gr.drew | apply Gr.alloc | apply Gr.gro | (refine gr_setNew ?_ (by omega)))
      case measure => simp [intOf]; omega
    · skip
      have j1 : ¬ (j : Int) < (n : Int) := by omega
      clear HV c0 c6 hlt
      go_wp2_with fail
      refine bodyPost_ret (res_two Tryz.results37 (rd_gp (by rfl) ?_) (rd_tmp (by rfl))) rfl ⟨rfl, ?_⟩
      · simp [go_sem, *]
      · repeat (first | exact G | apply Gr.drewN | apply Gr.drew | apply Gr.alloc | apply Gr.gro | (refine gr_setNew ?_ (by omega)))
set_option maxRecDepth 100000 in
set_option maxHeartbeats 1600000 in
theorem gf_off {k : Nat} (h1 : 1 ≤ k) (h2 : k ≤ 15) (n : Nat) (hn : n ≤ 2) (F : Nat → Q3) (hF : ∀ i, i < n → (F i).1 < M ∧ (F i).2.1 < M) (c : Array Value) (hrow : ∀ i, i < n → c.extract (i * 19) (i * 19 + 19) = pnQ (F i)) (hsz : n * 19 ≤ c.size) (m : Nat) (hm : m < n) (hoff : onB k (F m).1 (F m).2.1 (F m).2.2 = false) (hon : ∀ i, i < m → onB k (F i).1 (F i).2.1 (F i).2.2 = true) (b cap : Nat) (w : World) (hv : Vr w b c) :
    Calls Tryz.prog 37 #[.int .i64 (k : Int), .slice (some ⟨b, 0, none⟩) n cap] w fun e w' => e = .returned (.tuple #[.agg (cu 0 0 0 0 0 0 0 0 0 false), .int .i64 1401]) ∧ Gr w w' := by
  have HG : Hid (∀ w, Calls Tryz.prog 25 #[.int .i64 (k : Int)] w fun e w' => e = .returned (.tuple #[.agg (cu (k : Int) (pN k) (aN k) (bN k) (oN k) (xN k) (yN k) (bl (oN k)) (szN k) (lgN k)), .int .i64 0]) ∧ Gr w w') := fun w => get13_yes k h1 h2 w
  have HN : Hid (Unit → n ≤ 2) := fun _ => hn
  have HB : Hid (∀ i, i < n → (F i).1 < M ∧ (F i).2.1 < M) := hF
  have HO : Hid (∀ i, i < m → onB k (F i).1 (F i).2.1 (F i).2.2 = true) := hon
  have HM : Hid (Unit → m < n) := fun _ => hm
  have HOF : Hid (Unit → onB k (F m).1 (F m).2.1 (F m).2.2 = false) := fun _ => hoff
  have HL : Hid (∀ j, j < n → ∀ v, Gr w v → (loadS 27 (.pointer (some ⟨b, j * 19, none⟩))).run Tryz.prog v = .ok (.agg (pnt (F j).1 (F j).2.1 (F j).2.2)) v) := fun j hj v g => by
    have hb := (hv.gr g).h
    rw [loadPartP v b (j * 19) (by rw [hb]; omega), hb, hrow j hj]
  clear hn hF hrow hsz hon hm hoff
  go_enter Tryz.func37, Tryz.ntmps37
  go_wp2_with (go_at_call 25; refine (HG.out _).mono ?_; rintro e WA ⟨rfl, GA⟩)
  obtain ⟨e6, he6⟩ : ∃ b, WA.heap.size = b := ⟨_, rfl⟩
  simp only [he6]
  refine gen_w (fun wr => Hid (Gr w wr ∧ Vr wr (w.heap.size) (cu 0 0 0 0 0 0 0 0 0 false) ∧ Vr wr e6 (cu (k : Int) (pN k) (aN k) (bN k) (oN k) (xN k) (yN k) (bl (oN k)) (szN k) (lgN k)))) ?_ ?_
  · subst he6
    exact ⟨(((Gr.refl w).alloc _).trans GA).alloc _, ((Vr.new w _ _).gr GA).gr ((Gr.refl _).alloc _), Vr.new WA _ _⟩
  have hne : w.heap.size < e6 := by have := GA.below.size; simp at this; omega
  have hne2 : ¬ (w.heap.size = e6) := by omega
  have hne3 : ¬ (e6 = w.heap.size) := by omega
  clear he6 GA HG
  intro v0 HV
  go_loopw [20] (fun ia wr => ∃ j : Nat, ia = .int .i64 (j : Int) ∧ Hid (Unit → j ≤ m) ∧ Hid (Gr w wr ∧ Vr wr (w.heap.size) (cu 0 0 0 0 0 0 0 0 0 false) ∧ Vr wr e6 (cu (k : Int) (pN k) (aN k) (bN k) (oN k) (xN k) (yN k) (bl (oN k)) (szN k) (lgN k)))) (fun ia _ => ((n : Int) - intOf ia).toNat)
  case atStart => exact ⟨0, rfl, fun _ => Nat.zero_le _, HV⟩
  case round =>
    clear HV
    obtain ⟨j, rfl, HJ, HV⟩ := hrel
    obtain ⟨G, c0, c6⟩ := HV.out
    have j0 : (0 : Int) ≤ (j : Int) := by omega
    have n4 : (n : Int) ≤ 2 := by have := HN.out (); omega
    have ⟨hh0, ff0, pp0⟩ := c0
    have ⟨hh6, ff6, pp6⟩ := c6
    have ⟨p01, p02, p03, p04, p05, p06⟩ := c0.pp
    have ⟨p61, p62, p63, p64, p65, p66⟩ := c6.pp
    by_cases hlt : j < m
    · have hjn : j < n := by have := HM.out (); omega
      have j1 : (j : Int) < (n : Int) := by omega
      have ld0 := HL.out j hjn wr G
      have HO2 : Hid (∀ w, Calls Tryz.prog 26 #[.int .i64 (k : Int), .agg (pnt (F j).1 (F j).2.1 (F j).2.2)] w fun e w' => e = .returned (.bool true) ∧ Gr w w') := fun w => by
        have := on13_yes k h1 h2 _ _ (F j).2.2 (HB.out j hjn).1 (HB.out j hjn).2 w
        rw [HO.out j hlt] at this
        exact this
      clear HV c0 c6 hjn
      go_wp2_with (go_at_call 26; refine (HO2.out _).mono ?_; rintro e w' ⟨rfl, g, rfl⟩)
      go_roundw
      case rel =>
        refine ⟨j + 1, by go_num, fun _ => hlt, ?_, ⟨by simp [go_sem, *], by simp [go_sem, *], by simp [go_sem, *]⟩, ⟨by simp [go_sem, *], by simp [go_sem, *], by simp [go_sem, *]⟩⟩
        repeat (first | exact G | apply Gr.drewN | apply Gr.drew | apply Gr.alloc | apply Gr.gro | (refine gr_setNew ?_ (by omega)))
      case measure => simp [intOf]; omega
    · skip
      have HO2 : Hid (∀ w, Calls Tryz.prog 26 #[.int .i64 (k : Int), .agg (pnt (F j).1 (F j).2.1 (F j).2.2)] w fun e w' => e = .returned (.bool false) ∧ Gr w w') := fun w => by
        have hjm : j = m := by have := HJ.out (); omega
        have := on13_yes k h1 h2 _ _ (F m).2.2 (HB.out m (HM.out ())).1 (HB.out m (HM.out ())).2 w
        rw [HOF.out ()] at this
        rw [hjm]
        exact this
      have hjn : j < n := by have := HJ.out (); have := HM.out (); omega
      have j1 : (j : Int) < (n : Int) := by omega
      have ld0 := HL.out j hjn wr G
      clear HV c0 c6 hlt hjn
      go_wp2_with (go_at_call 26; refine (HO2.out _).mono ?_; rintro e w' ⟨rfl, g, rfl⟩)
      refine bodyPost_ret (res_two Tryz.results37 (rd_gp (by rfl) ?_) (rd_tmp (by rfl))) rfl ⟨rfl, ?_⟩
      · simp [go_sem, *]
      · repeat (first | exact G | apply Gr.drewN | apply Gr.drew | apply Gr.alloc | apply Gr.gro | (refine gr_setNew ?_ (by omega)))
set_option maxRecDepth 100000 in
set_option maxHeartbeats 400000 in
theorem gf_no (x : Int) (h : x < 1 ∨ 15 < x) (q : Option Addr) (n c : Nat) (w : World) : Calls Tryz.prog 37 #[.int .i64 x, .slice q n c] w fun e w' => e = .returned (.tuple #[.agg (cu 0 0 0 0 0 0 0 0 0 false), .int .i64 1400]) ∧ Gr w w' := by
  have HG : Hid (∀ w, Calls Tryz.prog 25 #[.int .i64 x] w fun e w' => e = .returned (.tuple #[.agg (cu 0 0 0 0 0 0 0 0 0 false), .int .i64 1300]) ∧ Gr w w') := fun w => get13_no x h w
  clear h
  go_enter Tryz.func37, Tryz.ntmps37
  go_wp2_with (go_at_call 25; refine (HG.out _).mono ?_; rintro e w' ⟨rfl, g, rfl⟩)
  refine bodyPost_ret (res_two Tryz.results37 (rd_gp (by rfl) ?_) (rd_tmp (by rfl))) rfl ⟨rfl, (by repeat (first | exact Gr.refl _ | apply Gr.drewN | apply Gr.drew | apply Gr.alloc | apply Gr.gro))⟩
  simp [go_sem]

end Go.Proofs.YtlbkhhihkomahaaGreat
namespace Go.Proofs.YtlbkhhihkomahaaGreat
open Go.RowKit
attribute [local go_sem ↓] loadNat_is loadArr_is loadWide_is loadArrW_is storeNat_is storeWide_is
attribute [local go_sem] loadNat loadArr loadWide loadArrW storeNat storeWide idxArr fold9 fold18 nw_size nw_elem pre_self pre_1 pre_2 pre_3 pre_4 pre_5 pre_6 pre_7 pre_8 pre_9 pre_10 pre_11 pre_12 pre_13 pre_14 pre_15 pre_16 pre_17 pre_18 pre_19 pre_20 pre_21 pre_22 pre_23 pre_24 pre_25 pre_26 pre_27 pre_28 pre_29 pre_30 pre_31 pre_32 pre_33 pre_34 pre_35 pre_36 pre_37 pre_38 pre_39 pre_40 gro_size gro_drew gro_drewN drew_gro drewN_gro gro_gro blk_gro frz_gro blk_drew frz_drew blk_drewN frz_drewN blk_alloc_at frz_alloc_at blk_alloc frz_alloc cell_gro frozen_gro cell_alloc_pre frozen_alloc_pre setCell_drewN alloc_drewN setBlk_drew setBlk_drewN setBlk_alloc_at setBlk_alloc setBlk_gro setCell_gro setCell_alloc_pre size_setBlk size_setCell
attribute [local go_sem] ppre_1 ppre_2 ppre_3 ppre_4 ppre_5 ppre_6
attribute [local go_sem ↓] loadGp_is storeGp_is zvGp_is buildGp_is storeTA_is storeTB_is buildTA_is buildTB_is zvCu_is storeCu_is loadCu_is loadPn_is storePn_is zvPn_is buildCu_is buildPn_is Go.wp_at_zero Go.wp_at_succ
attribute [local go_sem] loadGp storeGp zvGp buildGp0 buildGp1 buildPn0 storeTA storeTB buildTA buildTB tabA_size tabB_size zvCu storeCu loadCu loadPn storePn zvPn loadCP loadCA loadPX loadPY buildPnI buildPn2 cu_size cu_P cu_A pnt_size pnt_X pnt_Y frz_setBlk blk_setBlk setBlk_setBlk blk_other
set_option maxRecDepth 100000 in
set_option maxHeartbeats 1600000 in
theorem aadd_yes {k : Nat} {P Q R : Q3}
    (HG' : (∀ w b, Vr w b (pnt P.1 P.2.1 P.2.2 ++ pnt Q.1 Q.2.1 Q.2.2) → Calls Tryz.prog 37 #[.int .i64 (k : Int), .slice (some ⟨b, 0, none⟩) 2 2] w fun e w' => e = .returned (.tuple #[.agg (cu (k : Int) (pN k) (aN k) (bN k) (oN k) (xN k) (yN k) (bl (oN k)) (szN k) (lgN k)), .int .i64 0]) ∧ Gr w w'))
    (HA' : ∀ w, Calls Tryz.prog 38 #[.agg (cu (k : Int) (pN k) (aN k) (bN k) (oN k) (xN k) (yN k) (bl (oN k)) (szN k) (lgN k)), .agg (pnt P.1 P.2.1 P.2.2), .agg (pnt Q.1 Q.2.1 Q.2.2)] w fun e w' => e = .returned (.agg (pnt R.1 R.2.1 R.2.2)) ∧ Gr w w') (w : World) :
    Calls Tryz.prog 13 #[.int .i64 (k : Int), .agg (pnt P.1 P.2.1 P.2.2), .agg (pnt Q.1 Q.2.1 Q.2.2)] w fun e w' => e = .returned (.tuple #[.agg (pnt R.1 R.2.1 R.2.2), .int .i64 0]) ∧ Gr w w' := by
  have HG : Hid (∀ w b, Vr w b (pnt P.1 P.2.1 P.2.2 ++ pnt Q.1 Q.2.1 Q.2.2) → Calls Tryz.prog 37 #[.int .i64 (k : Int), .slice (some ⟨b, 0, none⟩) 2 2] w fun e w' => e = .returned (.tuple #[.agg (cu (k : Int) (pN k) (aN k) (bN k) (oN k) (xN k) (yN k) (bl (oN k)) (szN k) (lgN k)), .int .i64 0]) ∧ Gr w w') := HG'
  have HA : Hid (∀ w, Calls Tryz.prog 38 #[.agg (cu (k : Int) (pN k) (aN k) (bN k) (oN k) (xN k) (yN k) (bl (oN k)) (szN k) (lgN k)), .agg (pnt P.1 P.2.1 P.2.2), .agg (pnt Q.1 Q.2.1 Q.2.2)] w fun e w' => e = .returned (.agg (pnt R.1 R.2.1 R.2.2)) ∧ Gr w w') := HA'
  clear HG' HA'
  go_enter Tryz.func13, Tryz.ntmps13
  go_upto_region 1 with fail
  refine gen_w (fun v => Hid (Gr w v ∧ Vr v (w.heap.size) (pnt P.1 P.2.1 P.2.2) ∧ Vr v (w.heap.size + 1) (pnt Q.1 Q.2.1 Q.2.2) ∧ Vr v (w.heap.size + 1 + 1) (pnt 0 0 false))) ⟨(by repeat (first | exact Gr.refl _ | apply Gr.drewN | apply Gr.drew | apply Gr.alloc | apply Gr.gro)), ⟨by simp [go_sem], by simp [go_sem], by simp [go_sem]⟩, ⟨by simp [go_sem], by simp [go_sem], by simp [go_sem]⟩, ⟨by simp [go_sem], by simp [go_sem], by simp [go_sem]⟩⟩ ?_
  intro v0 HV
  obtain ⟨G, c0, c1, c2⟩ := HV.out
  clear HV
  refine wp_v false [.c (.int .i64 (k : Int)), .c (.agg (pnt P.1 P.2.1 P.2.2)), .c (.agg (pnt Q.1 Q.2.1 Q.2.2)), .r 2 (pnt P.1 P.2.1 P.2.2 ++ pnt Q.1 Q.2.1 Q.2.2), .c (.tuple #[.agg (cu (k : Int) (pN k) (aN k) (bN k) (oN k) (xN k) (yN k) (bl (oN k)) (szN k) (lgN k)), .int .i64 0]), .c (.tuple #[.agg (cu (k : Int) (pN k) (aN k) (bN k) (oN k) (xN k) (yN k) (bl (oN k)) (szN k) (lgN k)), .int .i64 0]), .c (.agg (cu (k : Int) (pN k) (aN k) (bN k) (oN k) (xN k) (yN k) (bl (oN k)) (szN k) (lgN k))), .c (.int .i64 0), .a, .u, .c (.int .i64 0)] [1, 2, 3, 4] [⟨8, 9, 74, cu 0 0 0 0 0 0 0 0 0 false, fun _ => cu (k : Int) (pN k) (aN k) (bN k) (oN k) (xN k) (yN k) (bl (oN k)) (szN k) (lgN k)⟩] ?hs1 ?hv1 ?hf1
  case hs1 =>
   refine .cons (.g 27 0 c0 rfl) ?_
   refine .cons (.g 27 0 c1 rfl) ?_
   refine .cons (.r (.buildSlice 94 2 #[(0, .const (.agg (pnt P.1 P.2.1 P.2.2))), (1, .const (.agg (pnt Q.1 Q.2.1 Q.2.2)))]) rfl (rowP2 _ _ _ _ _ _)) ?_
   refine .cons (.k (fun yy => #[.int .i64 (k : Int), .slice (some ⟨(yy 3 0).2, 0, none⟩) 2 2]) fun yy vv hg hh => RtW.of_c (Rt.c (HG.out _ _ (hh 3 rfl)))) .nil
  case hv1 =>
   refine .cons (.mk (fun _ _ _ => rfl) (fun _ v b H F => by dsimp only at H ⊢; simp [go_sem, exI, H, F]) zCu ⟨fkc, fkc, fkc, fkr (by simp [cu_size, pnt_size]), fkc, fkc, fkc, fkc, fka, fku, fkc, trivial⟩) .nil
  intro yw1 v1 hg h1 hV1
  simp only [FW, putFrom, Act.put, List.setIfInBounds_toArray, List.set_cons_zero, List.set_cons_succ, wvals, kW, List.getD_cons_zero, List.getD_cons_succ, Kw.c, Kw.a, Kw.r, Kw.u]
  obtain ⟨⟨N1_8, V1_8⟩, -⟩ : (v0.heap.size ≤ (yw1 8 0).2 ∧ Vr v1 (yw1 8 0).2 (cu (k : Int) (pN k) (aN k) (bN k) (oN k) (xN k) (yN k) (bl (oN k)) (szN k) (lgN k))) ∧ True := hV1
  clear h1
  replace G := G.trans hg
  replace c0 := c0.gr hg
  replace c1 := c1.gr hg
  replace c2 := c2.gr hg
  clear hg
  go_upto_region 2 with fail
  refine wp_wS [.c (.int .i64 0), .c (.bool false)] [] ?hs2 ?hf2
  case hs2 => exact .nil
  intro yw2 v2 hg h2
  simp only [FW, putFrom, Act.put, List.setIfInBounds_toArray, List.set_cons_zero, List.set_cons_succ, wvals, kW, List.getD_cons_zero, List.getD_cons_succ, Kw.c]
  clear h2
  replace G := G.trans hg
  replace c0 := c0.gr hg
  replace c1 := c1.gr hg
  replace c2 := c2.gr hg
  replace V1_8 := V1_8.gr hg
  clear hg
  have ⟨hh0, ff0, pp0⟩ := c0
  have ⟨p01, p02, p03, p04, p05, p06⟩ := c0.pp
  have ⟨hh1, ff1, pp1⟩ := c1
  have ⟨p11, p12, p13, p14, p15, p16⟩ := c1.pp
  have ⟨hh2, ff2, pp2⟩ := c2
  have ⟨p21, p22, p23, p24, p25, p26⟩ := c2.pp
  have ⟨hh3, ff3, pp3⟩ := V1_8
  have ⟨p31, p32, p33, p34, p35, p36⟩ := V1_8.pp
  clear c0 c1 c2 V1_8
  go_wp2_with (go_at_call 38; refine (HA.out _).mono ?_; rintro e w' ⟨rfl, g, rfl⟩)
  refine bodyPost_ret (res_two Tryz.results13 (rd_pn (by rfl) ?_) (rd_tmp (by rfl))) rfl ⟨rfl, ?_⟩
  · simp [go_sem, *]
  · repeat (first | exact G | apply Gr.drewN | apply Gr.drew | apply Gr.alloc | apply Gr.gro | (refine gr_setNew ?_ (by omega)))
set_option maxRecDepth 100000 in
set_option maxHeartbeats 1600000 in
theorem aadd_err (id er : Int) (hne : ¬ er = 0) {P Q : Q3}
    (HG' : (∀ w b, Vr w b (pnt P.1 P.2.1 P.2.2 ++ pnt Q.1 Q.2.1 Q.2.2) → Calls Tryz.prog 37 #[.int .i64 id, .slice (some ⟨b, 0, none⟩) 2 2] w fun e w' => e = .returned (.tuple #[.agg (cu 0 0 0 0 0 0 0 0 0 false), .int .i64 er]) ∧ Gr w w')) (w : World) :
    Calls Tryz.prog 13 #[.int .i64 id, .agg (pnt P.1 P.2.1 P.2.2), .agg (pnt Q.1 Q.2.1 Q.2.2)] w fun e w' => e = .returned (.tuple #[.agg (pnt 0 0 false), .int .i64 er]) ∧ Gr w w' := by
  have HG : Hid (∀ w b, Vr w b (pnt P.1 P.2.1 P.2.2 ++ pnt Q.1 Q.2.1 Q.2.2) → Calls Tryz.prog 37 #[.int .i64 id, .slice (some ⟨b, 0, none⟩) 2 2] w fun e w' => e = .returned (.tuple #[.agg (cu 0 0 0 0 0 0 0 0 0 false), .int .i64 er]) ∧ Gr w w') := HG'
  clear HG'
  go_enter Tryz.func13, Tryz.ntmps13
  go_upto_region 1 with fail
  refine gen_w (fun v => Hid (Gr w v ∧ Vr v (w.heap.size) (pnt P.1 P.2.1 P.2.2) ∧ Vr v (w.heap.size + 1) (pnt Q.1 Q.2.1 Q.2.2) ∧ Vr v (w.heap.size + 1 + 1) (pnt 0 0 false))) ⟨(by repeat (first | exact Gr.refl _ | apply Gr.drewN | apply Gr.drew | apply Gr.alloc | apply Gr.gro)), ⟨by simp [go_sem], by simp [go_sem], by simp [go_sem]⟩, ⟨by simp [go_sem], by simp [go_sem], by simp [go_sem]⟩, ⟨by simp [go_sem], by simp [go_sem], by simp [go_sem]⟩⟩ ?_
  intro v0 HV
  obtain ⟨G, c0, c1, c2⟩ := HV.out
  clear HV
  refine wp_v false [.c (.int .i64 id), .c (.agg (pnt P.1 P.2.1 P.2.2)), .c (.agg (pnt Q.1 Q.2.1 Q.2.2)), .r 2 (pnt P.1 P.2.1 P.2.2 ++ pnt Q.1 Q.2.1 Q.2.2), .c (.tuple #[.agg (cu 0 0 0 0 0 0 0 0 0 false), .int .i64 er]), .c (.tuple #[.agg (cu 0 0 0 0 0 0 0 0 0 false), .int .i64 er]), .c (.agg (cu 0 0 0 0 0 0 0 0 0 false)), .c (.int .i64 er), .a, .u, .c (.int .i64 er)] [1, 2, 3, 4] [⟨8, 9, 74, cu 0 0 0 0 0 0 0 0 0 false, fun _ => cu 0 0 0 0 0 0 0 0 0 false⟩] ?hs3 ?hv3 ?hf3
  case hs3 =>
   refine .cons (.g 27 0 c0 rfl) ?_
   refine .cons (.g 27 0 c1 rfl) ?_
   refine .cons (.r (.buildSlice 94 2 #[(0, .const (.agg (pnt P.1 P.2.1 P.2.2))), (1, .const (.agg (pnt Q.1 Q.2.1 Q.2.2)))]) rfl (rowP2 _ _ _ _ _ _)) ?_
   refine .cons (.k (fun yy => #[.int .i64 id, .slice (some ⟨(yy 3 0).2, 0, none⟩) 2 2]) fun yy vv hg hh => RtW.of_c (Rt.c (HG.out _ _ (hh 3 rfl)))) .nil
  case hv3 =>
   refine .cons (.mk (fun _ _ _ => rfl) (fun _ v b H F => by dsimp only at H ⊢; simp [go_sem, exI, H, F]) zCu ⟨fkc, fkc, fkc, fkr (by simp [cu_size, pnt_size]), fkc, fkc, fkc, fkc, fka, fku, fkc, trivial⟩) .nil
  intro yw1 v1 hg h1 hV1
  simp only [FW, putFrom, Act.put, List.setIfInBounds_toArray, List.set_cons_zero, List.set_cons_succ, wvals, kW, List.getD_cons_zero, List.getD_cons_succ, Kw.c, Kw.a, Kw.r, Kw.u]
  obtain ⟨⟨N1_8, V1_8⟩, -⟩ : (v0.heap.size ≤ (yw1 8 0).2 ∧ Vr v1 (yw1 8 0).2 (cu 0 0 0 0 0 0 0 0 0 false)) ∧ True := hV1
  clear h1
  replace G := G.trans hg
  replace c0 := c0.gr hg
  replace c1 := c1.gr hg
  replace c2 := c2.gr hg
  clear hg
  go_upto_region 2 with fail
  refine wp_wS [.c (.int .i64 er), .c (.bool true)] [1] ?hs4 ?hf4
  case hs4 =>
   refine .cons (.s (.binOp .neq 34 (.const (.int .i64 er)) (.const (.int .i64 0)) 34) rfl fun vv hg => by simp [go_sem, exI, hne]) .nil
  intro yw2 v2 hg h2
  simp only [FW, putFrom, Act.put, List.setIfInBounds_toArray, List.set_cons_zero, List.set_cons_succ, wvals, kW, List.getD_cons_zero, List.getD_cons_succ, Kw.c]
  clear h2
  replace G := G.trans hg
  replace c0 := c0.gr hg
  replace c1 := c1.gr hg
  replace c2 := c2.gr hg
  replace V1_8 := V1_8.gr hg
  clear hg
  have ⟨hh0, ff0, pp0⟩ := c0
  have ⟨p01, p02, p03, p04, p05, p06⟩ := c0.pp
  have ⟨hh1, ff1, pp1⟩ := c1
  have ⟨p11, p12, p13, p14, p15, p16⟩ := c1.pp
  have ⟨hh2, ff2, pp2⟩ := c2
  have ⟨p21, p22, p23, p24, p25, p26⟩ := c2.pp
  have ⟨hh3, ff3, pp3⟩ := V1_8
  have ⟨p31, p32, p33, p34, p35, p36⟩ := V1_8.pp
  clear c0 c1 c2 V1_8
  go_wp2_with fail
  refine bodyPost_ret (res_two Tryz.results13 (rd_pn (by rfl) ?_) (rd_tmp (by rfl))) rfl ⟨rfl, ?_⟩
  · simp [go_sem, *]
  · repeat (first | exact G | apply Gr.drewN | apply Gr.drew | apply Gr.alloc | apply Gr.gro | (refine gr_setNew ?_ (by omega)))
set_option maxRecDepth 100000 in
set_option maxHeartbeats 1600000 in
theorem aneg_yes {k : Nat} {P R : Q3}
    (HG' : (∀ w b, Vr w b (pnt P.1 P.2.1 P.2.2) → Calls Tryz.prog 37 #[.int .i64 (k : Int), .slice (some ⟨b, 0, none⟩) 1 1] w fun e w' => e = .returned (.tuple #[.agg (cu (k : Int) (pN k) (aN k) (bN k) (oN k) (xN k) (yN k) (bl (oN k)) (szN k) (lgN k)), .int .i64 0]) ∧ Gr w w'))
    (HA' : ∀ w, Calls Tryz.prog 39 #[.agg (cu (k : Int) (pN k) (aN k) (bN k) (oN k) (xN k) (yN k) (bl (oN k)) (szN k) (lgN k)), .agg (pnt P.1 P.2.1 P.2.2)] w fun e w' => e = .returned (.agg (pnt R.1 R.2.1 R.2.2)) ∧ Gr w w') (w : World) :
    Calls Tryz.prog 14 #[.int .i64 (k : Int), .agg (pnt P.1 P.2.1 P.2.2)] w fun e w' => e = .returned (.tuple #[.agg (pnt R.1 R.2.1 R.2.2), .int .i64 0]) ∧ Gr w w' := by
  have HG : Hid (∀ w b, Vr w b (pnt P.1 P.2.1 P.2.2) → Calls Tryz.prog 37 #[.int .i64 (k : Int), .slice (some ⟨b, 0, none⟩) 1 1] w fun e w' => e = .returned (.tuple #[.agg (cu (k : Int) (pN k) (aN k) (bN k) (oN k) (xN k) (yN k) (bl (oN k)) (szN k) (lgN k)), .int .i64 0]) ∧ Gr w w') := HG'
  have HA : Hid (∀ w, Calls Tryz.prog 39 #[.agg (cu (k : Int) (pN k) (aN k) (bN k) (oN k) (xN k) (yN k) (bl (oN k)) (szN k) (lgN k)), .agg (pnt P.1 P.2.1 P.2.2)] w fun e w' => e = .returned (.agg (pnt R.1 R.2.1 R.2.2)) ∧ Gr w w') := HA'
  clear HG' HA'
  go_enter Tryz.func14, Tryz.ntmps14
  go_upto_region 1 with fail
  refine gen_w (fun v => Hid (Gr w v ∧ Vr v (w.heap.size) (pnt P.1 P.2.1 P.2.2) ∧ Vr v (w.heap.size + 1) (pnt 0 0 false))) ⟨(by repeat (first | exact Gr.refl _ | apply Gr.drewN | apply Gr.drew | apply Gr.alloc | apply Gr.gro)), ⟨by simp [go_sem], by simp [go_sem], by simp [go_sem]⟩, ⟨by simp [go_sem], by simp [go_sem], by simp [go_sem]⟩⟩ ?_
  intro v0 HV
  obtain ⟨G, c0, c1⟩ := HV.out
  clear HV
  refine wp_v false [.c (.int .i64 (k : Int)), .c (.agg (pnt P.1 P.2.1 P.2.2)), .r 1 (pnt P.1 P.2.1 P.2.2), .c (.tuple #[.agg (cu (k : Int) (pN k) (aN k) (bN k) (oN k) (xN k) (yN k) (bl (oN k)) (szN k) (lgN k)), .int .i64 0]), .c (.tuple #[.agg (cu (k : Int) (pN k) (aN k) (bN k) (oN k) (xN k) (yN k) (bl (oN k)) (szN k) (lgN k)), .int .i64 0]), .c (.agg (cu (k : Int) (pN k) (aN k) (bN k) (oN k) (xN k) (yN k) (bl (oN k)) (szN k) (lgN k))), .c (.int .i64 0), .a, .u, .c (.int .i64 0)] [1, 2, 3] [⟨7, 8, 74, cu 0 0 0 0 0 0 0 0 0 false, fun _ => cu (k : Int) (pN k) (aN k) (bN k) (oN k) (xN k) (yN k) (bl (oN k)) (szN k) (lgN k)⟩] ?hs5 ?hv5 ?hf5
  case hs5 =>
   refine .cons (.g 27 0 c0 rfl) ?_
   refine .cons (.r (.buildSlice 94 1 #[(0, .const (.agg (pnt P.1 P.2.1 P.2.2)))]) rfl (rowP1 _ _ _)) ?_
   refine .cons (.k (fun yy => #[.int .i64 (k : Int), .slice (some ⟨(yy 2 0).2, 0, none⟩) 1 1]) fun yy vv hg hh => RtW.of_c (Rt.c (HG.out _ _ (hh 2 rfl)))) .nil
  case hv5 =>
   refine .cons (.mk (fun _ _ _ => rfl) (fun _ v b H F => by dsimp only at H ⊢; simp [go_sem, exI, H, F]) zCu ⟨fkc, fkc, fkr (by simp [cu_size, pnt_size]), fkc, fkc, fkc, fkc, fka, fku, fkc, trivial⟩) .nil
  intro yw1 v1 hg h1 hV1
  simp only [FW, putFrom, Act.put, List.setIfInBounds_toArray, List.set_cons_zero, List.set_cons_succ, wvals, kW, List.getD_cons_zero, List.getD_cons_succ, Kw.c, Kw.a, Kw.r, Kw.u]
  obtain ⟨⟨N1_7, V1_7⟩, -⟩ : (v0.heap.size ≤ (yw1 7 0).2 ∧ Vr v1 (yw1 7 0).2 (cu (k : Int) (pN k) (aN k) (bN k) (oN k) (xN k) (yN k) (bl (oN k)) (szN k) (lgN k))) ∧ True := hV1
  clear h1
  replace G := G.trans hg
  replace c0 := c0.gr hg
  replace c1 := c1.gr hg
  clear hg
  go_upto_region 2 with fail
  refine wp_wS [.c (.int .i64 0), .c (.bool false)] [] ?hs6 ?hf6
  case hs6 => exact .nil
  intro yw2 v2 hg h2
  simp only [FW, putFrom, Act.put, List.setIfInBounds_toArray, List.set_cons_zero, List.set_cons_succ, wvals, kW, List.getD_cons_zero, List.getD_cons_succ, Kw.c]
  clear h2
  replace G := G.trans hg
  replace c0 := c0.gr hg
  replace c1 := c1.gr hg
  replace V1_7 := V1_7.gr hg
  clear hg
  have ⟨hh0, ff0, pp0⟩ := c0
  have ⟨p01, p02, p03, p04, p05, p06⟩ := c0.pp
  have ⟨hh1, ff1, pp1⟩ := c1
  have ⟨p11, p12, p13, p14, p15, p16⟩ := c1.pp
  have ⟨hh2, ff2, pp2⟩ := V1_7
  have ⟨p21, p22, p23, p24, p25, p26⟩ := V1_7.pp
  clear c0 c1 V1_7
  go_wp2_with (go_at_call 39; refine (HA.out _).mono ?_; rintro e w' ⟨rfl, g, rfl⟩)
  refine bodyPost_ret (res_two Tryz.results14 (rd_pn (by rfl) ?_) (rd_tmp (by rfl))) rfl ⟨rfl, ?_⟩
  · simp [go_sem, *]
  · repeat (first | exact G | apply Gr.drewN | apply Gr.drew | apply Gr.alloc | apply Gr.gro | (refine gr_setNew ?_ (by omega)))
set_option maxRecDepth 100000 in
set_option maxHeartbeats 1600000 in
theorem aneg_err (id er : Int) (hne : ¬ er = 0) {P : Q3}
    (HG' : (∀ w b, Vr w b (pnt P.1 P.2.1 P.2.2) → Calls Tryz.prog 37 #[.int .i64 id, .slice (some ⟨b, 0, none⟩) 1 1] w fun e w' => e = .returned (.tuple #[.agg (cu 0 0 0 0 0 0 0 0 0 false), .int .i64 er]) ∧ Gr w w')) (w : World) :
    Calls Tryz.prog 14 #[.int .i64 id, .agg (pnt P.1 P.2.1 P.2.2)] w fun e w' => e = .returned (.tuple #[.agg (pnt 0 0 false), .int .i64 er]) ∧ Gr w w' := by
  have HG : Hid (∀ w b, Vr w b (pnt P.1 P.2.1 P.2.2) → Calls Tryz.prog 37 #[.int .i64 id, .slice (some ⟨b, 0, none⟩) 1 1] w fun e w' => e = .returned (.tuple #[.agg (cu 0 0 0 0 0 0 0 0 0 false), .int .i64 er]) ∧ Gr w w') := HG'
  clear HG'
  go_enter Tryz.func14, Tryz.ntmps14
  go_upto_region 1 with fail
  refine gen_w (fun v => Hid (Gr w v ∧ Vr v (w.heap.size) (pnt P.1 P.2.1 P.2.2) ∧ Vr v (w.heap.size + 1) (pnt 0 0 false))) ⟨(by repeat (first | exact Gr.refl _ | apply Gr.drewN | apply Gr.drew | apply Gr.alloc | apply Gr.gro)), ⟨by simp [go_sem], by simp [go_sem], by simp [go_sem]⟩, ⟨by simp [go_sem], by simp [go_sem], by simp [go_sem]⟩⟩ ?_
  intro v0 HV
  obtain ⟨G, c0, c1⟩ := HV.out
  clear HV
  refine wp_v false [.c (.int .i64 id), .c (.agg (pnt P.1 P.2.1 P.2.2)), .r 1 (pnt P.1 P.2.1 P.2.2), .c (.tuple #[.agg (cu 0 0 0 0 0 0 0 0 0 false), .int .i64 er]), .c (.tuple #[.agg (cu 0 0 0 0 0 0 0 0 0 false), .int .i64 er]), .c (.agg (cu 0 0 0 0 0 0 0 0 0 false)), .c (.int .i64 er), .a, .u, .c (.int .i64 er)] [1, 2, 3] [⟨7, 8, 74, cu 0 0 0 0 0 0 0 0 0 false, fun _ => cu 0 0 0 0 0 0 0 0 0 false⟩] ?hs7 ?hv7 ?hf7
  case hs7 =>
   refine .cons (.g 27 0 c0 rfl) ?_
   refine .cons (.r (.buildSlice 94 1 #[(0, .const (.agg (pnt P.1 P.2.1 P.2.2)))]) rfl (rowP1 _ _ _)) ?_
   refine .cons (.k (fun yy => #[.int .i64 id, .slice (some ⟨(yy 2 0).2, 0, none⟩) 1 1]) fun yy vv hg hh => RtW.of_c (Rt.c (HG.out _ _ (hh 2 rfl)))) .nil
  case hv7 =>
   refine .cons (.mk (fun _ _ _ => rfl) (fun _ v b H F => by dsimp only at H ⊢; simp [go_sem, exI, H, F]) zCu ⟨fkc, fkc, fkr (by simp [cu_size, pnt_size]), fkc, fkc, fkc, fkc, fka, fku, fkc, trivial⟩) .nil
  intro yw1 v1 hg h1 hV1
  simp only [FW, putFrom, Act.put, List.setIfInBounds_toArray, List.set_cons_zero, List.set_cons_succ, wvals, kW, List.getD_cons_zero, List.getD_cons_succ, Kw.c, Kw.a, Kw.r, Kw.u]
  obtain ⟨⟨N1_7, V1_7⟩, -⟩ : (v0.heap.size ≤ (yw1 7 0).2 ∧ Vr v1 (yw1 7 0).2 (cu 0 0 0 0 0 0 0 0 0 false)) ∧ True := hV1
  clear h1
  replace G := G.trans hg
  replace c0 := c0.gr hg
  replace c1 := c1.gr hg
  clear hg
  go_upto_region 2 with fail
  refine wp_wS [.c (.int .i64 er), .c (.bool true)] [1] ?hs8 ?hf8
  case hs8 =>
   refine .cons (.s (.binOp .neq 34 (.const (.int .i64 er)) (.const (.int .i64 0)) 34) rfl fun vv hg => by simp [go_sem, exI, hne]) .nil
  intro yw2 v2 hg h2
  simp only [FW, putFrom, Act.put, List.setIfInBounds_toArray, List.set_cons_zero, List.set_cons_succ, wvals, kW, List.getD_cons_zero, List.getD_cons_succ, Kw.c]
  clear h2
  replace G := G.trans hg
  replace c0 := c0.gr hg
  replace c1 := c1.gr hg
  replace V1_7 := V1_7.gr hg
  clear hg
  have ⟨hh0, ff0, pp0⟩ := c0
  have ⟨p01, p02, p03, p04, p05, p06⟩ := c0.pp
  have ⟨hh1, ff1, pp1⟩ := c1
  have ⟨p11, p12, p13, p14, p15, p16⟩ := c1.pp
  have ⟨hh2, ff2, pp2⟩ := V1_7
  have ⟨p21, p22, p23, p24, p25, p26⟩ := V1_7.pp
  clear c0 c1 V1_7
  go_wp2_with fail
  refine bodyPost_ret (res_two Tryz.results14 (rd_pn (by rfl) ?_) (rd_tmp (by rfl))) rfl ⟨rfl, ?_⟩
  · simp [go_sem, *]
  · repeat (first | exact G | apply Gr.drewN | apply Gr.drew | apply Gr.alloc | apply Gr.gro | (refine gr_setNew ?_ (by omega)))
set_option maxRecDepth 100000 in
set_option maxHeartbeats 1600000 in
theorem amul_yes {k : Nat} {P R : Q3} (t : Nat)
    (HG' : (∀ w b, Vr w b (pnt P.1 P.2.1 P.2.2) → Calls Tryz.prog 37 #[.int .i64 (k : Int), .slice (some ⟨b, 0, none⟩) 1 1] w fun e w' => e = .returned (.tuple #[.agg (cu (k : Int) (pN k) (aN k) (bN k) (oN k) (xN k) (yN k) (bl (oN k)) (szN k) (lgN k)), .int .i64 0]) ∧ Gr w w'))
    (HA' : ∀ w, Calls Tryz.prog 44 #[.agg (cu (k : Int) (pN k) (aN k) (bN k) (oN k) (xN k) (yN k) (bl (oN k)) (szN k) (lgN k)), .agg (nw 9 t), .agg (pnt P.1 P.2.1 P.2.2)] w fun e w' => e = .returned (.agg (pnt R.1 R.2.1 R.2.2)) ∧ Gr w w') (w : World) :
    Calls Tryz.prog 22 #[.int .i64 (k : Int), .agg (nw 9 t), .agg (pnt P.1 P.2.1 P.2.2)] w fun e w' => e = .returned (.tuple #[.agg (pnt R.1 R.2.1 R.2.2), .int .i64 0]) ∧ Gr w w' := by
  have HG : Hid (∀ w b, Vr w b (pnt P.1 P.2.1 P.2.2) → Calls Tryz.prog 37 #[.int .i64 (k : Int), .slice (some ⟨b, 0, none⟩) 1 1] w fun e w' => e = .returned (.tuple #[.agg (cu (k : Int) (pN k) (aN k) (bN k) (oN k) (xN k) (yN k) (bl (oN k)) (szN k) (lgN k)), .int .i64 0]) ∧ Gr w w') := HG'
  have HA : Hid (∀ w, Calls Tryz.prog 44 #[.agg (cu (k : Int) (pN k) (aN k) (bN k) (oN k) (xN k) (yN k) (bl (oN k)) (szN k) (lgN k)), .agg (nw 9 t), .agg (pnt P.1 P.2.1 P.2.2)] w fun e w' => e = .returned (.agg (pnt R.1 R.2.1 R.2.2)) ∧ Gr w w') := HA'
  clear HG' HA'
  go_enter Tryz.func22, Tryz.ntmps22
  go_upto_region 1 with fail
  refine gen_w (fun v => Hid (Gr w v ∧ Vr v (w.heap.size) (nw 9 t) ∧ Vr v (w.heap.size + 1) (pnt P.1 P.2.1 P.2.2) ∧ Vr v (w.heap.size + 1 + 1) (pnt 0 0 false))) ⟨(by repeat (first | exact Gr.refl _ | apply Gr.drewN | apply Gr.drew | apply Gr.alloc | apply Gr.gro)), ⟨by simp [go_sem], by simp [go_sem], by simp [go_sem]⟩, ⟨by simp [go_sem], by simp [go_sem], by simp [go_sem]⟩, ⟨by simp [go_sem], by simp [go_sem], by simp [go_sem]⟩⟩ ?_
  intro v0 HV
  obtain ⟨G, c0, c1, c2⟩ := HV.out
  clear HV
  refine wp_v false [.c (.int .i64 (k : Int)), .c (.agg (pnt P.1 P.2.1 P.2.2)), .r 1 (pnt P.1 P.2.1 P.2.2), .c (.tuple #[.agg (cu (k : Int) (pN k) (aN k) (bN k) (oN k) (xN k) (yN k) (bl (oN k)) (szN k) (lgN k)), .int .i64 0]), .c (.tuple #[.agg (cu (k : Int) (pN k) (aN k) (bN k) (oN k) (xN k) (yN k) (bl (oN k)) (szN k) (lgN k)), .int .i64 0]), .c (.agg (cu (k : Int) (pN k) (aN k) (bN k) (oN k) (xN k) (yN k) (bl (oN k)) (szN k) (lgN k))), .c (.int .i64 0), .a, .u, .c (.int .i64 0)] [1, 2, 3] [⟨7, 8, 74, cu 0 0 0 0 0 0 0 0 0 false, fun _ => cu (k : Int) (pN k) (aN k) (bN k) (oN k) (xN k) (yN k) (bl (oN k)) (szN k) (lgN k)⟩] ?hs9 ?hv9 ?hf9
  case hs9 =>
   refine .cons (.g 27 0 c1 rfl) ?_
   refine .cons (.r (.buildSlice 94 1 #[(0, .const (.agg (pnt P.1 P.2.1 P.2.2)))]) rfl (rowP1 _ _ _)) ?_
   refine .cons (.k (fun yy => #[.int .i64 (k : Int), .slice (some ⟨(yy 2 0).2, 0, none⟩) 1 1]) fun yy vv hg hh => RtW.of_c (Rt.c (HG.out _ _ (hh 2 rfl)))) .nil
  case hv9 =>
   refine .cons (.mk (fun _ _ _ => rfl) (fun _ v b H F => by dsimp only at H ⊢; simp [go_sem, exI, H, F]) zCu ⟨fkc, fkc, fkr (by simp [cu_size, pnt_size]), fkc, fkc, fkc, fkc, fka, fku, fkc, trivial⟩) .nil
  intro yw1 v1 hg h1 hV1
  simp only [FW, putFrom, Act.put, List.setIfInBounds_toArray, List.set_cons_zero, List.set_cons_succ, wvals, kW, List.getD_cons_zero, List.getD_cons_succ, Kw.c, Kw.a, Kw.r, Kw.u]
  obtain ⟨⟨N1_7, V1_7⟩, -⟩ : (v0.heap.size ≤ (yw1 7 0).2 ∧ Vr v1 (yw1 7 0).2 (cu (k : Int) (pN k) (aN k) (bN k) (oN k) (xN k) (yN k) (bl (oN k)) (szN k) (lgN k))) ∧ True := hV1
  clear h1
  replace G := G.trans hg
  replace c0 := c0.gr hg
  replace c1 := c1.gr hg
  replace c2 := c2.gr hg
  clear hg
  go_upto_region 2 with fail
  refine wp_wS [.c (.int .i64 0), .c (.bool false)] [] ?hs10 ?hf10
  case hs10 => exact .nil
  intro yw2 v2 hg h2
  simp only [FW, putFrom, Act.put, List.setIfInBounds_toArray, List.set_cons_zero, List.set_cons_succ, wvals, kW, List.getD_cons_zero, List.getD_cons_succ, Kw.c]
  clear h2
  replace G := G.trans hg
  replace c0 := c0.gr hg
  replace c1 := c1.gr hg
  replace c2 := c2.gr hg
  replace V1_7 := V1_7.gr hg
  clear hg
  have ⟨hh0, ff0, pp0⟩ := c0
  have ⟨p01, p02, p03, p04, p05, p06⟩ := c0.pp
  have ⟨hh1, ff1, pp1⟩ := c1
  have ⟨p11, p12, p13, p14, p15, p16⟩ := c1.pp
  have ⟨hh2, ff2, pp2⟩ := c2
  have ⟨p21, p22, p23, p24, p25, p26⟩ := c2.pp
  have ⟨hh3, ff3, pp3⟩ := V1_7
  have ⟨p31, p32, p33, p34, p35, p36⟩ := V1_7.pp
  clear c0 c1 c2 V1_7
  go_wp2_with (go_at_call 44; refine (HA.out _).mono ?_; rintro e w' ⟨rfl, g, rfl⟩)
  refine bodyPost_ret (res_two Tryz.results22 (rd_pn (by rfl) ?_) (rd_tmp (by rfl))) rfl ⟨rfl, ?_⟩
  · simp [go_sem, *]
  · repeat (first | exact G | apply Gr.drewN | apply Gr.drew | apply Gr.alloc | apply Gr.gro | (refine gr_setNew ?_ (by omega)))
set_option maxRecDepth 100000 in
set_option maxHeartbeats 1600000 in
theorem amul_err (id er : Int) (hne : ¬ er = 0) {P : Q3} (t : Nat)
    (HG' : (∀ w b, Vr w b (pnt P.1 P.2.1 P.2.2) → Calls Tryz.prog 37 #[.int .i64 id, .slice (some ⟨b, 0, none⟩) 1 1] w fun e w' => e = .returned (.tuple #[.agg (cu 0 0 0 0 0 0 0 0 0 false), .int .i64 er]) ∧ Gr w w')) (w : World) :
    Calls Tryz.prog 22 #[.int .i64 id, .agg (nw 9 t), .agg (pnt P.1 P.2.1 P.2.2)] w fun e w' => e = .returned (.tuple #[.agg (pnt 0 0 false), .int .i64 er]) ∧ Gr w w' := by
  have HG : Hid (∀ w b, Vr w b (pnt P.1 P.2.1 P.2.2) → Calls Tryz.prog 37 #[.int .i64 id, .slice (some ⟨b, 0, none⟩) 1 1] w fun e w' => e = .returned (.tuple #[.agg (cu 0 0 0 0 0 0 0 0 0 false), .int .i64 er]) ∧ Gr w w') := HG'
  clear HG'
  go_enter Tryz.func22, Tryz.ntmps22
  go_upto_region 1 with fail
  refine gen_w (fun v => Hid (Gr w v ∧ Vr v (w.heap.size) (nw 9 t) ∧ Vr v (w.heap.size + 1) (pnt P.1 P.2.1 P.2.2) ∧ Vr v (w.heap.size + 1 + 1) (pnt 0 0 false))) ⟨(by repeat (first | exact Gr.refl _ | apply Gr.drewN | apply Gr.drew | apply Gr.alloc | apply Gr.gro)), ⟨by simp [go_sem], by simp [go_sem], by simp [go_sem]⟩, ⟨by simp [go_sem], by simp [go_sem], by simp [go_sem]⟩, ⟨by simp [go_sem], by simp [go_sem], by simp [go_sem]⟩⟩ ?_
  intro v0 HV
  obtain ⟨G, c0, c1, c2⟩ := HV.out
  clear HV
  refine wp_v false [.c (.int .i64 id), .c (.agg (pnt P.1 P.2.1 P.2.2)), .r 1 (pnt P.1 P.2.1 P.2.2), .c (.tuple #[.agg (cu 0 0 0 0 0 0 0 0 0 false), .int .i64 er]), .c (.tuple #[.agg (cu 0 0 0 0 0 0 0 0 0 false), .int .i64 er]), .c (.agg (cu 0 0 0 0 0 0 0 0 0 false)), .c (.int .i64 er), .a, .u, .c (.int .i64 er)] [1, 2, 3] [⟨7, 8, 74, cu 0 0 0 0 0 0 0 0 0 false, fun _ => cu 0 0 0 0 0 0 0 0 0 false⟩] ?hs11 ?hv11 ?hf11
  case hs11 =>
   refine .cons (.g 27 0 c1 rfl) ?_
   refine .cons (.r (.buildSlice 94 1 #[(0, .const (.agg (pnt P.1 P.2.1 P.2.2)))]) rfl (rowP1 _ _ _)) ?_
   refine .cons (.k (fun yy => #[.int .i64 id, .slice (some ⟨(yy 2 0).2, 0, none⟩) 1 1]) fun yy vv hg hh => RtW.of_c (Rt.c (HG.out _ _ (hh 2 rfl)))) .nil
  case hv11 =>
   refine .cons (.mk (fun _ _ _ => rfl) (fun _ v b H F => by dsimp only at H ⊢; simp [go_sem, exI, H, F]) zCu ⟨fkc, fkc, fkr (by simp [cu_size, pnt_size]), fkc, fkc, fkc, fkc, fka, fku, fkc, trivial⟩) .nil
  intro yw1 v1 hg h1 hV1
  simp only [FW, putFrom, Act.put, List.setIfInBounds_toArray, List.set_cons_zero, List.set_cons_succ, wvals, kW, List.getD_cons_zero, List.getD_cons_succ, Kw.c, Kw.a, Kw.r, Kw.u]
  obtain ⟨⟨N1_7, V1_7⟩, -⟩ : (v0.heap.size ≤ (yw1 7 0).2 ∧ Vr v1 (yw1 7 0).2 (cu 0 0 0 0 0 0 0 0 0 false)) ∧ True := hV1
  clear h1
  replace G := G.trans hg
  replace c0 := c0.gr hg
  replace c1 := c1.gr hg
  replace c2 := c2.gr hg
  clear hg
  go_upto_region 2 with fail
  refine wp_wS [.c (.int .i64 er), .c (.bool true)] [1] ?hs12 ?hf12
  case hs12 =>
   refine .cons (.s (.binOp .neq 34 (.const (.int .i64 er)) (.const (.int .i64 0)) 34) rfl fun vv hg => by simp [go_sem, exI, hne]) .nil
  intro yw2 v2 hg h2
  simp only [FW, putFrom, Act.put, List.setIfInBounds_toArray, List.set_cons_zero, List.set_cons_succ, wvals, kW, List.getD_cons_zero, List.getD_cons_succ, Kw.c]
  clear h2
  replace G := G.trans hg
  replace c0 := c0.gr hg
  replace c1 := c1.gr hg
  replace c2 := c2.gr hg
  replace V1_7 := V1_7.gr hg
  clear hg
  have ⟨hh0, ff0, pp0⟩ := c0
  have ⟨p01, p02, p03, p04, p05, p06⟩ := c0.pp
  have ⟨hh1, ff1, pp1⟩ := c1
  have ⟨p11, p12, p13, p14, p15, p16⟩ := c1.pp
  have ⟨hh2, ff2, pp2⟩ := c2
  have ⟨p21, p22, p23, p24, p25, p26⟩ := c2.pp
  have ⟨hh3, ff3, pp3⟩ := V1_7
  have ⟨p31, p32, p33, p34, p35, p36⟩ := V1_7.pp
  clear c0 c1 c2 V1_7
  go_wp2_with fail
  refine bodyPost_ret (res_two Tryz.results22 (rd_pn (by rfl) ?_) (rd_tmp (by rfl))) rfl ⟨rfl, ?_⟩
  · simp [go_sem, *]
  · repeat (first | exact G | apply Gr.drewN | apply Gr.drew | apply Gr.alloc | apply Gr.gro | (refine gr_setNew ?_ (by omega)))
theorem gf1 {k : Nat} (h1 : 1 ≤ k) (h2 : k ≤ 15) {P : Q3} (hP : OnQ k P) (w : World) (b : Nat) (hv : Vr w b (pnQ P)) : Calls Tryz.prog 37 #[.int .i64 (k : Int), .slice (some ⟨b, 0, none⟩) 1 1] w fun e w' => e = .returned (.tuple #[.agg (cu (k : Int) (pN k) (aN k) (bN k) (oN k) (xN k) (yN k) (bl (oN k)) (szN k) (lgN k)), .int .i64 0]) ∧ Gr w w' :=
  gf_yes h1 h2 1 (by decide) (fun _ => P) (fun _ _ => hP.lt) _ (fun i hi => by
    obtain rfl : i = 0 := by omega
    kernel_rfl) (by simp [pnt_size]) (fun _ _ => hP) b 1 w hv
theorem gf1_off {k : Nat} (h1 : 1 ≤ k) (h2 : k ≤ 15) {P : Q3} (lP : P.1 < M ∧ P.2.1 < M) (hP : onB k P.1 P.2.1 P.2.2 = false) (w : World) (b : Nat) (hv : Vr w b (pnQ P)) : Calls Tryz.prog 37 #[.int .i64 (k : Int), .slice (some ⟨b, 0, none⟩) 1 1] w fun e w' => e = .returned (.tuple #[.agg (cu 0 0 0 0 0 0 0 0 0 false), .int .i64 1401]) ∧ Gr w w' :=
  gf_off h1 h2 1 (by decide) (fun _ => P) (fun _ _ => lP) _ (fun i hi => by
    obtain rfl : i = 0 := by omega
    kernel_rfl) (by simp [pnt_size]) 0 (by decide) hP (fun i h => absurd h (Nat.not_lt_zero i)) b 1 w hv
theorem gf2 {k : Nat} (h1 : 1 ≤ k) (h2 : k ≤ 15) {P Q : Q3} (hP : OnQ k P) (hQ : OnQ k Q) (w : World) (b : Nat) (hv : Vr w b (pnQ P ++ pnQ Q)) : Calls Tryz.prog 37 #[.int .i64 (k : Int), .slice (some ⟨b, 0, none⟩) 2 2] w fun e w' => e = .returned (.tuple #[.agg (cu (k : Int) (pN k) (aN k) (bN k) (oN k) (xN k) (yN k) (bl (oN k)) (szN k) (lgN k)), .int .i64 0]) ∧ Gr w w' :=
  gf_yes h1 h2 2 (by decide) (fun i => match i with | 0 => P | _ => Q) (fun i _ => match i with | 0 => hP.lt | _ + 1 => hQ.lt) _ (fun i hi => by
    obtain rfl | rfl : i = 0 ∨ i = 1 := by omega
    · kernel_rfl
    · kernel_rfl) (by simp [pnt_size]) (fun i _ => match i with | 0 => hP | _ + 1 => hQ) b 2 w hv
theorem gf2_off {k : Nat} (h1 : 1 ≤ k) (h2 : k ≤ 15) {P Q : Q3} (lP : P.1 < M ∧ P.2.1 < M) (lQ : Q.1 < M ∧ Q.2.1 < M) (h : onB k P.1 P.2.1 P.2.2 = false ∨ onB k Q.1 Q.2.1 Q.2.2 = false) (w : World) (b : Nat) (hv : Vr w b (pnQ P ++ pnQ Q)) : Calls Tryz.prog 37 #[.int .i64 (k : Int), .slice (some ⟨b, 0, none⟩) 2 2] w fun e w' => e = .returned (.tuple #[.agg (cu 0 0 0 0 0 0 0 0 0 false), .int .i64 1401]) ∧ Gr w w' := by
  by_cases hP : onB k P.1 P.2.1 P.2.2 = true
  · have hQ : onB k Q.1 Q.2.1 Q.2.2 = false := h.resolve_left (by rw [hP]; decide)
    exact gf_off h1 h2 2 (by decide) (fun i => match i with | 0 => P | _ => Q) (fun i _ => match i with | 0 => lP | _ + 1 => lQ) _ (fun i hi => by
    obtain rfl | rfl : i = 0 ∨ i = 1 := by omega
    · kernel_rfl
    · kernel_rfl) (by simp [pnt_size]) 1 (by decide) hQ (fun i hi => by
      obtain rfl : i = 0 := by omega
      exact hP) b 2 w hv
  · exact gf_off h1 h2 2 (by decide) (fun i => match i with | 0 => P | _ => Q) (fun i _ => match i with | 0 => lP | _ + 1 => lQ) _ (fun i hi => by
    obtain rfl | rfl : i = 0 ∨ i = 1 := by omega
    · kernel_rfl
    · kernel_rfl) (by simp [pnt_size]) 0 (by decide) (Bool.eq_false_iff.2 hP) (fun i h => absurd h (Nat.not_lt_zero i)) b 2 w hv
theorem addQ {k : Nat} (h1 : 1 ≤ k) (h2 : k ≤ 15) {P Q R : Q3} (hP : OnQ k P) (hQ : OnQ k Q) (hR : plQ k P Q = R) (w : World) : Calls Tryz.prog 13 #[.int .i64 (k : Int), .agg (pnQ P), .agg (pnQ Q)] w fun e w' => e = .returned (.tuple #[.agg (pnQ R), .int .i64 0]) ∧ Gr w w' := aadd_yes (gf2 h1 h2 hP hQ) (gaddQ h1 h2 hP hQ hR) w
theorem negQ {k : Nat} (h1 : 1 ≤ k) (h2 : k ≤ 15) {P R : Q3} (hP : OnQ k P) (hR : ngQ k P = R) (w : World) : Calls Tryz.prog 14 #[.int .i64 (k : Int), .agg (pnQ P)] w fun e w' => e = .returned (.tuple #[.agg (pnQ R), .int .i64 0]) ∧ Gr w w' := aneg_yes (gf1 h1 h2 hP) (gnegQ h1 h2 hP hR) w
theorem mulQ {k : Nat} (h1 : 1 ≤ k) (h2 : k ≤ 15) {P R : Q3} (hP : OnQ k P) {t : Nat} (ht : t < M) (hR : mlQ k t P = R) (w : World) : Calls Tryz.prog 22 #[.int .i64 (k : Int), .agg (nw 9 t), .agg (pnQ P)] w fun e w' => e = .returned (.tuple #[.agg (pnQ R), .int .i64 0]) ∧ Gr w w' := amul_yes t (gf1 h1 h2 hP) (hR ▸ gmulQ h1 h2 hP t ht) w
theorem add_off {k : Nat} (h1 : 1 ≤ k) (h2 : k ≤ 15) {P Q : Q3} (lP : P.1 < M ∧ P.2.1 < M) (lQ : Q.1 < M ∧ Q.2.1 < M) (h : onB k P.1 P.2.1 P.2.2 = false ∨ onB k Q.1 Q.2.1 Q.2.2 = false) (w : World) : Calls Tryz.prog 13 #[.int .i64 (k : Int), .agg (pnQ P), .agg (pnQ Q)] w fun e w' => e = .returned (.tuple #[.agg (pnt 0 0 false), .int .i64 1401]) ∧ Gr w w' := aadd_err _ _ (by decide) (gf2_off h1 h2 lP lQ h) w
theorem neg_off {k : Nat} (h1 : 1 ≤ k) (h2 : k ≤ 15) {P : Q3} (lP : P.1 < M ∧ P.2.1 < M) (h : onB k P.1 P.2.1 P.2.2 = false) (w : World) : Calls Tryz.prog 14 #[.int .i64 (k : Int), .agg (pnQ P)] w fun e w' => e = .returned (.tuple #[.agg (pnt 0 0 false), .int .i64 1401]) ∧ Gr w w' := aneg_err _ _ (by decide) (gf1_off h1 h2 lP h) w
theorem mul_off {k : Nat} (h1 : 1 ≤ k) (h2 : k ≤ 15) {P : Q3} (lP : P.1 < M ∧ P.2.1 < M) (h : onB k P.1 P.2.1 P.2.2 = false) (t : Nat) (w : World) : Calls Tryz.prog 22 #[.int .i64 (k : Int), .agg (nw 9 t), .agg (pnQ P)] w fun e w' => e = .returned (.tuple #[.agg (pnt 0 0 false), .int .i64 1401]) ∧ Gr w w' := amul_err _ _ (by decide) t (gf1_off h1 h2 lP h) w
theorem add_no (x : Int) (h : x < 1 ∨ 15 < x) (P Q : Q3) (w : World) : Calls Tryz.prog 13 #[.int .i64 x, .agg (pnQ P), .agg (pnQ Q)] w fun e w' => e = .returned (.tuple #[.agg (pnt 0 0 false), .int .i64 1400]) ∧ Gr w w' := aadd_err _ _ (by decide) (fun w _ _ => gf_no x h _ _ _ w) w
theorem neg_no (x : Int) (h : x < 1 ∨ 15 < x) (P : Q3) (w : World) : Calls Tryz.prog 14 #[.int .i64 x, .agg (pnQ P)] w fun e w' => e = .returned (.tuple #[.agg (pnt 0 0 false), .int .i64 1400]) ∧ Gr w w' := aneg_err _ _ (by decide) (fun w _ _ => gf_no x h _ _ _ w) w
theorem mul_no (x : Int) (h : x < 1 ∨ 15 < x) (P : Q3) (t : Nat) (w : World) : Calls Tryz.prog 22 #[.int .i64 x, .agg (nw 9 t), .agg (pnQ P)] w fun e w' => e = .returned (.tuple #[.agg (pnt 0 0 false), .int .i64 1400]) ∧ Gr w w' := amul_err _ _ (by decide) t (fun w _ _ => gf_no x h _ _ _ w) w

end Go.Proofs.YtlbkhhihkomahaaGreat
namespace Go.Proofs.YtlbkhhihkomahaaGreat
open Go.RowKit
attribute [local go_sem ↓] loadNat_is loadArr_is loadWide_is loadArrW_is storeNat_is storeWide_is
attribute [local go_sem] loadNat loadArr loadWide loadArrW storeNat storeWide idxArr fold9 fold18 nw_size nw_elem pre_self pre_1 pre_2 pre_3 pre_4 pre_5 pre_6 pre_7 pre_8 pre_9 pre_10 pre_11 pre_12 pre_13 pre_14 pre_15 pre_16 pre_17 pre_18 pre_19 pre_20 pre_21 pre_22 pre_23 pre_24 pre_25 pre_26 pre_27 pre_28 pre_29 pre_30 pre_31 pre_32 pre_33 pre_34 pre_35 pre_36 pre_37 pre_38 pre_39 pre_40 gro_size gro_drew gro_drewN drew_gro drewN_gro gro_gro blk_gro frz_gro blk_drew frz_drew blk_drewN frz_drewN blk_alloc_at frz_alloc_at blk_alloc frz_alloc cell_gro frozen_gro cell_alloc_pre frozen_alloc_pre setCell_drewN alloc_drewN setBlk_drew setBlk_drewN setBlk_alloc_at setBlk_alloc setBlk_gro setCell_gro setCell_alloc_pre size_setBlk size_setCell
attribute [local go_sem ↓] loadPt_is storePt_is zvPt_is buildPt_is loadC_is loadPn_is loadCu_is storePn_is zvPn_is buildPn_is storeCu_is zvCu_is buildCu_is Go.wp_at_zero Go.wp_at_succ
attribute [local go_sem] loadPt storePt zvPt buildPt3 buildPt2 buildPtI ptA_size crA_size loadC loadPn loadPX loadPY pnt_size pnt_X pnt_Y storePn zvPn buildPn2 buildPn3 storeCu zvCu buildCu9 cu_size loadCu
set_option maxRecDepth 100000 in
set_option maxHeartbeats 1600000 in
theorem ron_inf (id : Int) (P A B N X Y : Nat) (qc : Nat → Option Addr × Nat) (x y : Nat) (p q : Option Addr) (n m : Nat) (w : World) (HQ : ∀ k, Sl w (qc k).1 (six P A B N X Y k)) (Sx : Sl w p x) (Sy : Sl w q y) :
    Calls Tryz.prog 18 #[.agg (crA id (six P A B N X Y) qc), .agg (ptA p x n q y m true)] w fun e w' => e = .returned (.bool (decide (x = 0) && decide (y = 0))) ∧ Gr w w' := by
  go_enter Tryz.func18, Tryz.ntmps18
  go_upto_region 1 with fail
  refine gen_w (fun v => Gr w v ∧ Vr v (w.heap.size) (crA id (six P A B N X Y) qc) ∧ Vr v (w.heap.size + 1) (ptA p x n q y m true)) ⟨(by repeat (first | exact Gr.refl _ | apply Gr.drewN | apply Gr.drew | apply Gr.alloc | apply Gr.gro)), ⟨by simp [go_sem], by simp [go_sem], by simp [go_sem]⟩, ⟨by simp [go_sem], by simp [go_sem], by simp [go_sem]⟩⟩ ?_
  rintro v0 ⟨G, c1, c2⟩
  replace HQ := fun k => (HQ k).gr G
  replace Sx := Sx.gr G
  replace Sy := Sy.gr G
  refine wp_wS [.c (pv (w.heap.size + 1) 2), .c (.bool true)] [1] ?hs8 ?hf8
  case hs8 =>
   refine .cons (.o 4 2 c2 rfl rfl) .nil
  intro yw1 v1 hg h1
  simp only [FW, putFrom, Act.put, List.setIfInBounds_toArray, List.set_cons_zero, List.set_cons_succ, wvals, kW, List.getD_cons_zero, List.getD_cons_succ, Kw.c, pv]
  clear h1
  replace G := G.trans hg
  replace c1 := c1.gr hg
  replace c2 := c2.gr hg
  replace HQ := fun k => (HQ k).gr hg
  replace Sx := Sx.gr hg
  replace Sy := Sy.gr hg
  clear hg
  have k20 : v1.cell? ⟨w.heap.size + 1, 0, none⟩ = some (.slice p (dl x) n) := by rw [cell_blk, c2.h]; rfl
  have k21 : v1.cell? ⟨w.heap.size + 1, 1, none⟩ = some (.slice q (dl y) m) := by rw [cell_blk, c2.h]; rfl
  by_cases hx : x = 0
  · have zx := dl_nought x
    rw [decide_eq_true hx] at zx
    have zy := dl_nought y
    go_wp2_with fail
    go_ret
    exact ⟨by simp [hx], G⟩
  · have zx := dl_nought x
    rw [decide_eq_false hx] at zx
    go_wp2_with fail
    go_ret
    exact ⟨by simp [hx], G⟩
set_option maxRecDepth 100000 in
set_option maxHeartbeats 1600000 in
theorem ron_x (id : Int) (P A B N X Y : Nat) (qc : Nat → Option Addr × Nat) (x y : Nat) (p q : Option Addr) (n m : Nat) (hx4 : dl x ≤ 400) (hd : dl P ≤ 400) (hx : P ≤ x) (w : World) (HQ : ∀ k, Sl w (qc k).1 (six P A B N X Y k)) (Sx : Sl w p x) (Sy : Sl w q y) :
    Calls Tryz.prog 18 #[.agg (crA id (six P A B N X Y) qc), .agg (ptA p x n q y m false)] w fun e w' => e = .returned (.bool false) ∧ Gr w w' := by
  obtain ⟨zx, ex⟩ : ∃ z, cmpZ x P = z := ⟨_, rfl⟩
  have bx : decide (0 ≤ zx) = true := by rw [← ex]; unfold cmpZ; rw [if_neg (by omega)]; split <;> decide
  go_enter Tryz.func18, Tryz.ntmps18
  go_upto_region 1 with fail
  refine gen_w (fun v => Gr w v ∧ Vr v (w.heap.size) (crA id (six P A B N X Y) qc) ∧ Vr v (w.heap.size + 1) (ptA p x n q y m false)) ⟨(by repeat (first | exact Gr.refl _ | apply Gr.drewN | apply Gr.drew | apply Gr.alloc | apply Gr.gro)), ⟨by simp [go_sem], by simp [go_sem], by simp [go_sem]⟩, ⟨by simp [go_sem], by simp [go_sem], by simp [go_sem]⟩⟩ ?_
  rintro v0 ⟨G, c1, c2⟩
  replace HQ := fun k => (HQ k).gr G
  replace Sx := Sx.gr G
  replace Sy := Sy.gr G
  refine wp_wS [.c (pv (w.heap.size + 1) 2), .c (.bool false)] [1] ?hs9 ?hf9
  case hs9 =>
   refine .cons (.o 4 2 c2 rfl rfl) .nil
  intro yw1 v1 hg h1
  simp only [FW, putFrom, Act.put, List.setIfInBounds_toArray, List.set_cons_zero, List.set_cons_succ, wvals, kW, List.getD_cons_zero, List.getD_cons_succ, Kw.c, pv]
  clear h1
  replace G := G.trans hg
  replace c1 := c1.gr hg
  replace c2 := c2.gr hg
  replace HQ := fun k => (HQ k).gr hg
  replace Sx := Sx.gr hg
  replace Sy := Sy.gr hg
  clear hg
  go_upto_region 3 with fail
  refine wp_wS [.c (pv (w.heap.size + 1) 0), .c (.slice p (dl (x)) n), .c (pv (w.heap.size) 1), .c (.slice (qc 0).1 (dl (P)) (qc 0).2), .c (.int .i64 zx), .c (.bool true), .c (.bool true), .u, .u, .u, .u, .u, .u, .c (.bool true)] [1, 3, 4, 5] ?hs10 ?hf10
  case hs10 =>
   refine .cons (.o 29 0 c2 rfl rfl) ?_
   refine .cons (.o 29 1 c1 rfl rfl) ?_
   refine .cons (.k (fun yy => #[.slice p (dl (x)) n, .slice (qc 0).1 (dl (P)) (qc 0).2]) fun yy vv hg hh => RtW.of_c (cz_any (Sx.gr hg) ((HQ 0).gr hg) hx4 hd ex)) ?_
   refine .cons (.s (.binOp .geq 3 (.const (.int .i64 zx)) (.const (.int .i64 0)) 3) rfl fun vv hg => by simp [go_sem, exI, bx]) .nil
  intro yw3 v2 hg h3
  simp only [FW, putFrom, Act.put, List.setIfInBounds_toArray, List.set_cons_zero, List.set_cons_succ, wvals, kW, List.getD_cons_zero, List.getD_cons_succ, Kw.c, pv, Kw.u]
  clear h3
  replace G := G.trans hg
  replace c1 := c1.gr hg
  replace c2 := c2.gr hg
  replace HQ := fun k => (HQ k).gr hg
  replace Sx := Sx.gr hg
  replace Sy := Sy.gr hg
  clear hg
  go_wp2_with fail
  go_ret
  exact ⟨rfl, G⟩
set_option maxRecDepth 100000 in
set_option maxHeartbeats 1600000 in
theorem ron_y (id : Int) (P A B N X Y : Nat) (qc : Nat → Option Addr × Nat) (x y : Nat) (p q : Option Addr) (n m : Nat) (hx4 : dl x ≤ 400) (hy4 : dl y ≤ 400) (hd : dl P ≤ 400) (hx : x < P) (hy : P ≤ y) (w : World) (HQ : ∀ k, Sl w (qc k).1 (six P A B N X Y k)) (Sx : Sl w p x) (Sy : Sl w q y) :
    Calls Tryz.prog 18 #[.agg (crA id (six P A B N X Y) qc), .agg (ptA p x n q y m false)] w fun e w' => e = .returned (.bool false) ∧ Gr w w' := by
  obtain ⟨zx, ex⟩ : ∃ z, cmpZ x P = z := ⟨_, rfl⟩
  have bx : decide (0 ≤ zx) = false := by rw [← ex]; unfold cmpZ; rw [if_pos hx]; decide
  obtain ⟨zy, ey⟩ : ∃ z, cmpZ y P = z := ⟨_, rfl⟩
  have by1 : decide (0 ≤ zy) = true := by rw [← ey]; unfold cmpZ; rw [if_neg (by omega)]; split <;> decide
  go_enter Tryz.func18, Tryz.ntmps18
  go_upto_region 1 with fail
  refine gen_w (fun v => Gr w v ∧ Vr v (w.heap.size) (crA id (six P A B N X Y) qc) ∧ Vr v (w.heap.size + 1) (ptA p x n q y m false)) ⟨(by repeat (first | exact Gr.refl _ | apply Gr.drewN | apply Gr.drew | apply Gr.alloc | apply Gr.gro)), ⟨by simp [go_sem], by simp [go_sem], by simp [go_sem]⟩, ⟨by simp [go_sem], by simp [go_sem], by simp [go_sem]⟩⟩ ?_
  rintro v0 ⟨G, c1, c2⟩
  replace HQ := fun k => (HQ k).gr G
  replace Sx := Sx.gr G
  replace Sy := Sy.gr G
  refine wp_wS [.c (pv (w.heap.size + 1) 2), .c (.bool false)] [1] ?hs11 ?hf11
  case hs11 =>
   refine .cons (.o 4 2 c2 rfl rfl) .nil
  intro yw1 v1 hg h1
  simp only [FW, putFrom, Act.put, List.setIfInBounds_toArray, List.set_cons_zero, List.set_cons_succ, wvals, kW, List.getD_cons_zero, List.getD_cons_succ, Kw.c, pv]
  clear h1
  replace G := G.trans hg
  replace c1 := c1.gr hg
  replace c2 := c2.gr hg
  replace HQ := fun k => (HQ k).gr hg
  replace Sx := Sx.gr hg
  replace Sy := Sy.gr hg
  clear hg
  go_upto_region 3 with fail
  refine wp_wS [.c (pv (w.heap.size + 1) 0), .c (.slice p (dl (x)) n), .c (pv (w.heap.size) 1), .c (.slice (qc 0).1 (dl (P)) (qc 0).2), .c (.int .i64 zx), .c (.bool false), .c (.bool false), .c (pv (w.heap.size + 1) 1), .c (.slice q (dl (y)) m), .c (pv (w.heap.size) 1), .c (.slice (qc 0).1 (dl (P)) (qc 0).2), .c (.int .i64 zy), .c (.bool true), .c (.bool true)] [1, 3, 4, 5, 8, 10, 11, 12] ?hs12 ?hf12
  case hs12 =>
   refine .cons (.o 29 0 c2 rfl rfl) ?_
   refine .cons (.o 29 1 c1 rfl rfl) ?_
   refine .cons (.k (fun yy => #[.slice p (dl (x)) n, .slice (qc 0).1 (dl (P)) (qc 0).2]) fun yy vv hg hh => RtW.of_c (cz_any (Sx.gr hg) ((HQ 0).gr hg) hx4 hd ex)) ?_
   refine .cons (.s (.binOp .geq 3 (.const (.int .i64 zx)) (.const (.int .i64 0)) 3) rfl fun vv hg => by simp [go_sem, exI, bx]) ?_
   refine .cons (.o 29 1 c2 rfl rfl) ?_
   refine .cons (.o 29 1 c1 rfl rfl) ?_
   refine .cons (.k (fun yy => #[.slice q (dl (y)) m, .slice (qc 0).1 (dl (P)) (qc 0).2]) fun yy vv hg hh => RtW.of_c (cz_any (Sy.gr hg) ((HQ 0).gr hg) hy4 hd ey)) ?_
   refine .cons (.s (.binOp .geq 3 (.const (.int .i64 zy)) (.const (.int .i64 0)) 3) rfl fun vv hg => by simp [go_sem, exI, by1]) .nil
  intro yw3 v2 hg h3
  simp only [FW, putFrom, Act.put, List.setIfInBounds_toArray, List.set_cons_zero, List.set_cons_succ, wvals, kW, List.getD_cons_zero, List.getD_cons_succ, Kw.c, pv]
  clear h3
  replace G := G.trans hg
  replace c1 := c1.gr hg
  replace c2 := c2.gr hg
  replace HQ := fun k => (HQ k).gr hg
  replace Sx := Sx.gr hg
  replace Sy := Sy.gr hg
  clear hg
  go_wp2_with fail
  go_ret
  exact ⟨rfl, G⟩
set_option maxRecDepth 100000 in
set_option maxHeartbeats 1600000 in
theorem ron_ok (id : Int) (P A B N X Y : Nat) (qc : Nat → Option Addr × Nat) (x y : Nat) (p q : Option Addr) (n m : Nat) (hx4 : dl x ≤ 400) (hy4 : dl y ≤ 400) (hd : dl P ≤ 400) (lx : x < P) (ly : y < P) (lA : A < P) (lB : B < P) (w : World) (HQ : ∀ k, Sl w (qc k).1 (six P A B N X Y k)) (Sx : Sl w p x) (Sy : Sl w q y) :
    Calls Tryz.prog 18 #[.agg (crA id (six P A B N X Y) qc), .agg (ptA p x n q y m false)] w fun e w' => e = .returned (.bool (decide (y * y % P = ((x * x % P + A) % P * x % P + B) % P))) ∧ Gr w w' := by
  have hP : 0 < P := by omega
  obtain ⟨zx, ex⟩ : ∃ z, cmpZ x P = z := ⟨_, rfl⟩
  have bx : decide (0 ≤ zx) = false := by rw [← ex]; unfold cmpZ; rw [if_pos lx]; decide
  obtain ⟨zy, ey⟩ : ∃ z, cmpZ y P = z := ⟨_, rfl⟩
  have by1 : decide (0 ≤ zy) = false := by rw [← ey]; unfold cmpZ; rw [if_pos ly]; decide
  obtain ⟨t1, ht1⟩ : ∃ z, y * y % P = z := ⟨_, rfl⟩
  have lt1 : t1 < P := ht1 ▸ Nat.mod_lt _ hP
  obtain ⟨R, hR1⟩ : ∃ z, ((x * x % P + A) % P * x % P + B) % P = z := ⟨_, rfl⟩
  have lR : R < P := hR1 ▸ Nat.mod_lt _ hP
  rw [hR1, ht1]
  obtain ⟨zz, ez⟩ : ∃ z, cmpZ t1 R = z := ⟨_, rfl⟩
  obtain ⟨r, hr⟩ : ∃ r, decide (t1 = R) = r := ⟨_, rfl⟩
  have bz : (zz == 0) = r := by rw [← ez, ← hr]; exact cmpZ_nought _ _
  rw [hr]
  go_enter Tryz.func18, Tryz.ntmps18
  go_upto_region 1 with fail
  refine gen_w (fun v => Gr w v ∧ Vr v (w.heap.size) (crA id (six P A B N X Y) qc) ∧ Vr v (w.heap.size + 1) (ptA p x n q y m false)) ⟨(by repeat (first | exact Gr.refl _ | apply Gr.drewN | apply Gr.drew | apply Gr.alloc | apply Gr.gro)), ⟨by simp [go_sem], by simp [go_sem], by simp [go_sem]⟩, ⟨by simp [go_sem], by simp [go_sem], by simp [go_sem]⟩⟩ ?_
  rintro v0 ⟨G, c1, c2⟩
  replace HQ := fun k => (HQ k).gr G
  replace Sx := Sx.gr G
  replace Sy := Sy.gr G
  refine wp_wS [.c (pv (w.heap.size + 1) 2), .c (.bool false)] [1] ?hs13 ?hf13
  case hs13 =>
   refine .cons (.o 4 2 c2 rfl rfl) .nil
  intro yw1 v1 hg h1
  simp only [FW, putFrom, Act.put, List.setIfInBounds_toArray, List.set_cons_zero, List.set_cons_succ, wvals, kW, List.getD_cons_zero, List.getD_cons_succ, Kw.c, pv]
  clear h1
  replace G := G.trans hg
  replace c1 := c1.gr hg
  replace c2 := c2.gr hg
  replace HQ := fun k => (HQ k).gr hg
  replace Sx := Sx.gr hg
  replace Sy := Sy.gr hg
  clear hg
  go_upto_region 3 with fail
  refine wp_wS [.c (pv (w.heap.size + 1) 0), .c (.slice p (dl (x)) n), .c (pv (w.heap.size) 1), .c (.slice (qc 0).1 (dl (P)) (qc 0).2), .c (.int .i64 zx), .c (.bool false), .c (.bool false), .c (pv (w.heap.size + 1) 1), .c (.slice q (dl (y)) m), .c (pv (w.heap.size) 1), .c (.slice (qc 0).1 (dl (P)) (qc 0).2), .c (.int .i64 zy), .c (.bool false), .c (.bool false)] [1, 3, 4, 5, 8, 10, 11, 12] ?hs14 ?hf14
  case hs14 =>
   refine .cons (.o 29 0 c2 rfl rfl) ?_
   refine .cons (.o 29 1 c1 rfl rfl) ?_
   refine .cons (.k (fun yy => #[.slice p (dl (x)) n, .slice (qc 0).1 (dl (P)) (qc 0).2]) fun yy vv hg hh => RtW.of_c (cz_any (Sx.gr hg) ((HQ 0).gr hg) hx4 hd ex)) ?_
   refine .cons (.s (.binOp .geq 3 (.const (.int .i64 zx)) (.const (.int .i64 0)) 3) rfl fun vv hg => by simp [go_sem, exI, bx]) ?_
   refine .cons (.o 29 1 c2 rfl rfl) ?_
   refine .cons (.o 29 1 c1 rfl rfl) ?_
   refine .cons (.k (fun yy => #[.slice q (dl (y)) m, .slice (qc 0).1 (dl (P)) (qc 0).2]) fun yy vv hg hh => RtW.of_c (cz_any (Sy.gr hg) ((HQ 0).gr hg) hy4 hd ey)) ?_
   refine .cons (.s (.binOp .geq 3 (.const (.int .i64 zy)) (.const (.int .i64 0)) 3) rfl fun vv hg => by simp [go_sem, exI, by1]) .nil
  intro yw3 v2 hg h3
  simp only [FW, putFrom, Act.put, List.setIfInBounds_toArray, List.set_cons_zero, List.set_cons_succ, wvals, kW, List.getD_cons_zero, List.getD_cons_succ, Kw.c, pv]
  clear h3
  replace G := G.trans hg
  replace c1 := c1.gr hg
  replace c2 := c2.gr hg
  replace HQ := fun k => (HQ k).gr hg
  replace Sx := Sx.gr hg
  replace Sy := Sy.gr hg
  clear hg
  go_upto_region 5 with fail
  refine wp_w [.c (pv (w.heap.size + 1) 1), .c (.slice q (dl (y)) m), .c (pv (w.heap.size + 1) 1), .c (.slice q (dl (y)) m), .c (pv (w.heap.size) 1), .c (.slice (qc 0).1 (dl (P)) (qc 0).2), .n (t1), .c (.agg (crA id (six P A B N X Y) qc)), .c (pv (w.heap.size + 1) 0), .c (.slice p (dl (x)) n), .n (R), .c (.int .i64 zz), .c (.bool r), .c (.bool r)] [1, 3, 5, 6, 7, 9, 10, 11, 12] ?hs15 ?hf15
  case hs15 =>
   refine .cons (.o 29 1 c2 rfl rfl) ?_
   refine .cons (.o 29 1 c2 rfl rfl) ?_
   refine .cons (.o 29 1 c1 rfl rfl) ?_
   refine .cons (.k (fun yy => #[.slice q (dl (y)) m, .slice q (dl (y)) m, .slice (qc 0).1 (dl (P)) (qc 0).2]) fun yy vv hg hh => RtW.of_n (mm_any (Sy.gr hg) (Sy.gr hg) ((HQ 0).gr hg) ly ly hd ht1)) ?_
   refine .cons (.g 31 0 c1 rfl) ?_
   refine .cons (.o 29 0 c2 rfl rfl) ?_
   refine .cons (.k (fun yy => #[.agg (crA id (six P A B N X Y) qc), .slice p (dl (x)) n]) fun yy vv hg hh => RtW.of_n (Rt.n (hR1 ▸ rright_any id P A B N X Y qc x _ _ lx lA lB hd _ (fun k => (HQ k).gr hg) (Sx.gr hg)))) ?_
   refine .cons (.k (fun yy => #[.slice (yy 6 0).1 (dl (t1)) (yy 6 0).2, .slice (yy 10 0).1 (dl (R)) (yy 10 0).2]) fun yy vv hg hh => RtW.of_c (cz_any (hh 6 rfl) (hh 10 rfl) (dl_low _ P 400 (by omega) hd) (dl_low _ P 400 (by omega) hd) ez)) ?_
   refine .cons (.s (.binOp .eql 3 (.const (.int .i64 zz)) (.const (.int .i64 0)) 3) rfl fun vv hg => by simp [go_sem, exI, bz]) .nil
  intro yw5 v3 hg h5
  simp only [FW, putFrom, Act.put, List.setIfInBounds_toArray, List.set_cons_zero, List.set_cons_succ, wvals, kW, List.getD_cons_zero, List.getD_cons_succ, Kw.c, pv, Kw.n]
  clear h5
  replace G := G.trans hg
  replace c1 := c1.gr hg
  replace c2 := c2.gr hg
  replace HQ := fun k => (HQ k).gr hg
  replace Sx := Sx.gr hg
  replace Sy := Sy.gr hg
  clear hg
  go_wp2_with fail
  go_ret
  exact ⟨rfl, G⟩

end Go.Proofs.YtlbkhhihkomahaaGreat
namespace Go.Proofs.YtlbkhhihkomahaaGreat
open Go.RowKit
attribute [local go_sem ↓] loadNat_is loadArr_is loadWide_is loadArrW_is storeNat_is storeWide_is
attribute [local go_sem] loadNat loadArr loadWide loadArrW storeNat storeWide idxArr fold9 fold18 nw_size nw_elem pre_self pre_1 pre_2 pre_3 pre_4 pre_5 pre_6 pre_7 pre_8 pre_9 pre_10 pre_11 pre_12 pre_13 pre_14 pre_15 pre_16 pre_17 pre_18 pre_19 pre_20 pre_21 pre_22 pre_23 pre_24 pre_25 pre_26 pre_27 pre_28 pre_29 pre_30 pre_31 pre_32 pre_33 pre_34 pre_35 pre_36 pre_37 pre_38 pre_39 pre_40 gro_size gro_drew gro_drewN drew_gro drewN_gro gro_gro blk_gro frz_gro blk_drew frz_drew blk_drewN frz_drewN blk_alloc_at frz_alloc_at blk_alloc frz_alloc cell_gro frozen_gro cell_alloc_pre frozen_alloc_pre setCell_drewN alloc_drewN setBlk_drew setBlk_drewN setBlk_alloc_at setBlk_alloc setBlk_gro setCell_gro setCell_alloc_pre size_setBlk size_setCell
attribute [local go_sem ↓] loadPt_is storePt_is zvPt_is buildPt_is loadC_is loadPn_is loadCu_is storePn_is zvPn_is buildPn_is storeCu_is zvCu_is buildCu_is Go.wp_at_zero Go.wp_at_succ
attribute [local go_sem] loadPt storePt zvPt buildPt3 buildPt2 buildPtI ptA_size crA_size loadC loadPn loadPX loadPY pnt_size pnt_X pnt_Y storePn zvPn buildPn2 buildPn3 storeCu zvCu buildCu9 cu_size loadCu
attribute [local go_sem] frz_setBlk blk_setBlk setBlk_setBlk
section
variable {P : Nat} [NeZero P] {i : Fin P → Fin P} {A B : Fin P}
set_option maxRecDepth 100000 in
set_option maxHeartbeats 4000000 in
theorem rtimes_any (C : EC.Cur i A B) (hd : dl P ≤ 400) (id : Int) (N X Y : Nat) (qc : Nat → Option Addr × Nat) (k nk : Nat) (pk : Option Addr) (hk : dl k ≤ 400) (Q : Option (Fin P × Fin P)) (hQ : EC.On A B Q) (p q : Option Addr) (n m : Nat) (w : World)
    (HQ : ∀ k, Sl w (qc k).1 (six P A.val B.val N X Y k)) (Sk : Sl w pk k) (Sx : Sl w p (ex Q)) (Sy : Sl w q (ey Q)) :
    Calls Tryz.prog 23 #[.agg (crA id (six P A.val B.val N X Y) qc), .slice pk (dl k) nk, .agg (ptA p (ex Q) n q (ey Q) m (ef Q))] w (Rt (.pt (ex (EC.ml i A k Q)) (ey (EC.ml i A k Q)) (ef (EC.ml i A k Q))) w) := by
  obtain ⟨L, hL⟩ : ∃ L, bl k = L := ⟨_, rfl⟩
  have hL1 : (L : Int) ≤ 12800 := by
    have : (bl k + 31) / 32 ≤ 400 := hk
    omega
  have hL0 : (0 : Int) ≤ (L : Int) := by omega
  have HB : Hid (∀ w', Gr w w' → Calls Tryz.prog 45 #[.slice pk (dl k) nk] w' fun e w'' => e = .returned (.int .i64 (L : Int)) ∧ w'' = w') := fun w' g => hL ▸ rbits_any k nk pk w' (Sk.gr g) (by omega)
  have HZ : Hid (Unit → k / 2 ^ L = 0) := fun _ => Nat.div_eq_of_lt (hL ▸ (bl_le k (bl k)).1 (Nat.le_refl _))
  have HLk : Hid (Unit → L ≤ 12800) := fun _ => by omega
  clear hL
  go_enter Tryz.func23, Tryz.ntmps23
  go_upto_region 3 with (go_at_call 45; refine (HB.out _ (by repeat (first | exact Gr.refl _ | apply Gr.drewN | apply Gr.drew | apply Gr.alloc | apply Gr.gro))).mono ?_; rintro e w' ⟨rfl, rfl⟩)
  obtain ⟨b7, hb7⟩ : ∃ b, w.heap.size + 1 + 1 + 1 = b := ⟨_, rfl⟩
  simp only [hb7]
  refine gen_w (fun v => Hid (Gr w v ∧ Vr v (w.heap.size) (crA id (six P A.val B.val N X Y) qc) ∧ Vr v (w.heap.size + 1) (ptA p (ex Q) n q (ey Q) m (ef Q)) ∧ Vr v (w.heap.size + 1 + 1) (ptA none 0 0 none 0 0 false) ∧ Vr v b7 (ptA none 0 0 none 0 0 true))) ?_ ?_
  · subst hb7
    exact ⟨(by repeat (first | exact Gr.refl _ | apply Gr.drewN | apply Gr.drew | apply Gr.alloc | apply Gr.gro)), ⟨by simp [go_sem], by simp [go_sem], by simp [go_sem]⟩, ⟨by simp [go_sem], by simp [go_sem], by simp [go_sem]⟩, ⟨by simp [go_sem], by simp [go_sem], by simp [go_sem]⟩, ⟨by simp [go_sem], by simp [go_sem], by simp [go_sem]⟩⟩
  intro v0 HV
  have ne0 : b7 ≠ w.heap.size := by omega
  have ne1 : b7 ≠ w.heap.size + 1 := by omega
  have ne2 : b7 ≠ w.heap.size + 1 + 1 := by omega
  have nb7 : w.heap.size ≤ b7 := by omega
  have HN : Hid (Unit → b7 ≠ w.heap.size ∧ b7 ≠ w.heap.size + 1 ∧ b7 ≠ w.heap.size + 1 + 1 ∧ w.heap.size ≤ b7) := fun _ => ⟨ne0, ne1, ne2, nb7⟩
  clear hb7 ne0 ne1 ne2 nb7 HB
  go_loopw [8] (fun ia wr => ∃ (j : Nat) (po : Option Addr) (no : Nat) (qo : Option Addr) (mo : Nat), ia = .int .i64 ((j : Int) - 1) ∧ Hid (Unit → j ≤ L) ∧ Hid (Gr w wr ∧ Vr wr (w.heap.size) (crA id (six P A.val B.val N X Y) qc) ∧ Vr wr (w.heap.size + 1) (ptA p (ex Q) n q (ey Q) m (ef Q)) ∧ Vr wr (w.heap.size + 1 + 1) (ptA none 0 0 none 0 0 false) ∧ Vr wr b7 (ptA po (ex (EC.ml i A (k / 2 ^ j) Q)) no qo (ey (EC.ml i A (k / 2 ^ j) Q)) mo (ef (EC.ml i A (k / 2 ^ j) Q))) ∧ Sl wr po (ex (EC.ml i A (k / 2 ^ j) Q)) ∧ Sl wr qo (ey (EC.ml i A (k / 2 ^ j) Q)))) (fun ia _ => (intOf ia + 1).toNat)
  case atStart =>
    refine ⟨L, none, 0, none, 0, rfl, fun _ => Nat.le_refl _, ?_⟩
    rw [HZ.out ()]
    obtain ⟨h1, h2, h3, h4, h5⟩ := HV.out
    exact ⟨h1, h2, h3, h4, h5, Sl.zero _ _, Sl.zero _ _⟩
  case round =>
    obtain ⟨j, po, no, qo, mo, rfl, HJ, HR⟩ := hrel
    by_cases hpos : 0 < j
    · obtain ⟨i0, rfl⟩ : ∃ i, j = i + 1 := ⟨j - 1, by omega⟩
      have e1 : (((i0 + 1 : Nat) : Int) - 1) = (i0 : Int) := by omega
      rw [e1]
      have j0 : (0 : Int) ≤ (i0 : Int) := by omega
      have j1 : (i0 : Int) < 12800 := by have := HJ.out (); have := HLk.out (); omega
      have HJ2 : i0 ≤ L := by have := HJ.out (); omega
      obtain ⟨R, hR⟩ : ∃ R, EC.ml i A (k / 2 ^ (i0 + 1)) Q = R := ⟨_, rfl⟩
      obtain ⟨R1, hR1⟩ : ∃ R1, EC.pl i A R R = R1 := ⟨_, rfl⟩
      obtain ⟨R2, hR2⟩ : ∃ R2, EC.pl i A R1 Q = R2 := ⟨_, rfl⟩
      rw [hR] at HR
      obtain ⟨G, c1, c2, c3, c7, So, To⟩ := HR.out
      obtain ⟨ne0, ne1, ne2, nb7⟩ := HN.out ()
      replace HQ := fun k => (HQ k).gr G
      replace Sk := Sk.gr G
      replace Sx := Sx.gr G
      replace Sy := Sy.gr G
      have hdiv : ∀ b, k / 2 ^ i0 % 2 = b → k / 2 ^ i0 = k / 2 ^ (i0 + 1) + k / 2 ^ (i0 + 1) + b := fun b hb => by
        rw [Nat.pow_succ, ← Nat.div_div_eq_div_mul]; omega
      have h12 : EC.ml i A (k / 2 ^ (i0 + 1) + k / 2 ^ (i0 + 1)) Q = R1 := by rw [EC.ml_add C hQ, hR, hR1]
      have hbt := fun w' (s : Sl w' pk k) => rbit_any k nk i0 pk w' s (by omega)
      clear HV HR HJ hpos e1
      obtain hb | hb : k / 2 ^ i0 % 2 = 0 ∨ k / 2 ^ i0 % 2 = 1 := by omega
      · have hR3 : R1 = EC.ml i A (k / 2 ^ i0) Q := by rw [hdiv 0 hb, Nat.add_zero, h12]
        have hbit : ∀ w', Sl w' pk k → Calls Tryz.prog 46 #[.slice pk (dl k) nk, .int .i64 (i0 : Int)] w' fun e w'' => e = .returned (.int .i64 0) ∧ w'' = w' := fun w' s => by
          have := hbt w' s
          rw [show bitN k i0 = 0 from hb] at this
          exact this
        clear hb h12 hdiv hbt
        go_upto_region 5 with fail
        refine wp_wTS 4 [.c (.agg (crA id (six P A.val B.val N X Y) qc)), .c (.agg (ptA po (ex R) no qo (ey R) mo (ef R))), .c (.agg (ptA po (ex R) no qo (ey R) mo (ef R))), .pt (ex R1) (ey R1) (ef R1)] [0, 1, 2, 3] ?hs1 ?hf1
        case hs1 =>
         refine .cons (.g 31 0 c1 rfl) ?_
         refine .cons (.g 41 0 c7 rfl) ?_
         refine .cons (.g 41 0 c7 rfl) ?_
         refine .cons (.k (fun yy => #[.agg (crA id (six P A.val B.val N X Y) qc), .agg (ptA po (ex R) no qo (ey R) mo (ef R)), .agg (ptA po (ex R) no qo (ey R) mo (ef R))]) fun yy vv hg hh => RtW.of_pt (hR1 ▸ rplus_any C hd id N X Y qc R R po qo no mo po qo no mo _ (fun k => (HQ k).gr hg) (So.gr hg) (To.gr hg) (So.gr hg) (To.gr hg))) .nil
        refine .s 41 (fun yy => .pointer (some ⟨b7, 0, none⟩)) (fun yy => .agg (ptA (yy 3 0).1 (ex R1) (yy 3 0).2 (yy 3 1).1 (ey R1) (yy 3 1).2 (ef R1))) fun yw5 v1 hg h5 => ?_
        have HT := (c7.gr hg).h
        have FT := (c7.gr hg).f
        refine ⟨setBlk v1 (b7) (ptA (yw5 3 0).1 (ex R1) (yw5 3 0).2 (yw5 3 1).1 (ey R1) (yw5 3 1).2 (ef R1)), by simp [go_sem, exI, HT, FT], ?_⟩
        simp only [FW, putFrom, Act.put, List.setIfInBounds_toArray, List.set_cons_zero, List.set_cons_succ, wvals, kW, List.getD_cons_zero, List.getD_cons_succ, Kw.c, Kw.pt]
        obtain ⟨S5_3, T5_3⟩ : Sl v1 (yw5 3 0).1 (ex R1) ∧ Sl v1 (yw5 3 1).1 (ey R1) := h5 3
        clear h5
        replace G := G.trans hg
        replace c1 := c1.gr hg
        replace c2 := c2.gr hg
        replace c3 := c3.gr hg
        replace c7 := c7.gr hg
        replace HQ := fun k => (HQ k).gr hg
        replace Sk := Sk.gr hg
        replace Sx := Sx.gr hg
        replace Sy := Sy.gr hg
        replace So := So.gr hg
        replace To := To.gr hg
        clear hg
        go_upto_region 6 with fail
        refine gen_w (fun u => Gr w u ∧ Vr u (w.heap.size) (crA id (six P A.val B.val N X Y) qc) ∧ Vr u (w.heap.size + 1) (ptA p (ex Q) n q (ey Q) m (ef Q)) ∧ Vr u (w.heap.size + 1 + 1) (ptA none 0 0 none 0 0 false) ∧ Vr u (b7) (ptA (yw5 3 0).1 (ex R1) (yw5 3 0).2 (yw5 3 1).1 (ey R1) (yw5 3 1).2 (ef R1)) ∧ (∀ k, Sl u (qc k).1 (six P A.val B.val N X Y k)) ∧ Sl u pk (k) ∧ Sl u p (ex Q) ∧ Sl u q (ey Q) ∧ Sl u (yw5 3 0).1 (ex R1) ∧ Sl u (yw5 3 1).1 (ey R1)) ⟨gr_setNew G (by omega), c1.other (ne0), c2.other (ne1), c3.other (ne2), c7.set (by rw [ptA_size]; decide) _, fun k => Sl.set (HQ k) (by rw [HT]; exact ptA_no _ _ _ _ _ _ _), Sl.set Sk (by rw [HT]; exact ptA_no _ _ _ _ _ _ _), Sl.set Sx (by rw [HT]; exact ptA_no _ _ _ _ _ _ _), Sl.set Sy (by rw [HT]; exact ptA_no _ _ _ _ _ _ _), Sl.set S5_3 (by rw [HT]; exact ptA_no _ _ _ _ _ _ _), Sl.set T5_3 (by rw [HT]; exact ptA_no _ _ _ _ _ _ _)⟩ ?_
        clear HT FT
        rintro u5 ⟨G, c1, c2, c3, c7, HQ, Sk, Sx, Sy, S5_3, T5_3⟩
        refine wp_wS [.c (.slice pk (dl (k)) nk), .c (.int .i64 (i0 : Int)), .c (.int .i64 0), .c (.bool false)] [2] ?hs2 ?hf2
        case hs2 =>
         refine .cons (.k (fun yy => #[.slice pk (dl (k)) nk, .int .i64 (i0 : Int)]) fun yy vv hg hh => RtW.of_c (Rt.same (hbit _ (Sk.gr hg)))) .nil
        intro yw6 v2 hg h6
        simp only [FW, putFrom, Act.put, List.setIfInBounds_toArray, List.set_cons_zero, List.set_cons_succ, wvals, kW, List.getD_cons_zero, List.getD_cons_succ, Kw.c]
        clear h6
        replace G := G.trans hg
        replace c1 := c1.gr hg
        replace c2 := c2.gr hg
        replace c3 := c3.gr hg
        replace c7 := c7.gr hg
        replace HQ := fun k => (HQ k).gr hg
        replace Sk := Sk.gr hg
        replace Sx := Sx.gr hg
        replace Sy := Sy.gr hg
        replace S5_3 := S5_3.gr hg
        replace T5_3 := T5_3.gr hg
        clear hg
        go_wp2_with fail
        go_roundw
        case rel =>
          refine ⟨i0, (yw5 3 0).1, (yw5 3 0).2, (yw5 3 1).1, (yw5 3 1).2, by simp, fun _ => HJ2, ?_⟩
          rw [← hR3]
          exact ⟨G, c1, c2, c3, c7, S5_3, T5_3⟩
        case measure => simp [intOf]
      · have hR3 : R2 = EC.ml i A (k / 2 ^ i0) Q := by
          rw [hdiv 1 hb]
          show R2 = EC.pl i A (EC.ml i A (k / 2 ^ (i0 + 1) + k / 2 ^ (i0 + 1)) Q) Q
          rw [h12, hR2]
        have hbit : ∀ w', Sl w' pk k → Calls Tryz.prog 46 #[.slice pk (dl k) nk, .int .i64 (i0 : Int)] w' fun e w'' => e = .returned (.int .i64 1) ∧ w'' = w' := fun w' s => by
          have := hbt w' s
          rw [show bitN k i0 = 1 from hb] at this
          exact this
        clear hb h12 hdiv hbt
        go_upto_region 5 with fail
        refine wp_wTS 4 [.c (.agg (crA id (six P A.val B.val N X Y) qc)), .c (.agg (ptA po (ex R) no qo (ey R) mo (ef R))), .c (.agg (ptA po (ex R) no qo (ey R) mo (ef R))), .pt (ex R1) (ey R1) (ef R1)] [0, 1, 2, 3] ?hs3 ?hf3
        case hs3 =>
         refine .cons (.g 31 0 c1 rfl) ?_
         refine .cons (.g 41 0 c7 rfl) ?_
         refine .cons (.g 41 0 c7 rfl) ?_
         refine .cons (.k (fun yy => #[.agg (crA id (six P A.val B.val N X Y) qc), .agg (ptA po (ex R) no qo (ey R) mo (ef R)), .agg (ptA po (ex R) no qo (ey R) mo (ef R))]) fun yy vv hg hh => RtW.of_pt (hR1 ▸ rplus_any C hd id N X Y qc R R po qo no mo po qo no mo _ (fun k => (HQ k).gr hg) (So.gr hg) (To.gr hg) (So.gr hg) (To.gr hg))) .nil
        refine .s 41 (fun yy => .pointer (some ⟨b7, 0, none⟩)) (fun yy => .agg (ptA (yy 3 0).1 (ex R1) (yy 3 0).2 (yy 3 1).1 (ey R1) (yy 3 1).2 (ef R1))) fun yw5 v1 hg h5 => ?_
        have HT := (c7.gr hg).h
        have FT := (c7.gr hg).f
        refine ⟨setBlk v1 (b7) (ptA (yw5 3 0).1 (ex R1) (yw5 3 0).2 (yw5 3 1).1 (ey R1) (yw5 3 1).2 (ef R1)), by simp [go_sem, exI, HT, FT], ?_⟩
        simp only [FW, putFrom, Act.put, List.setIfInBounds_toArray, List.set_cons_zero, List.set_cons_succ, wvals, kW, List.getD_cons_zero, List.getD_cons_succ, Kw.c, Kw.pt]
        obtain ⟨S5_3, T5_3⟩ : Sl v1 (yw5 3 0).1 (ex R1) ∧ Sl v1 (yw5 3 1).1 (ey R1) := h5 3
        clear h5
        replace G := G.trans hg
        replace c1 := c1.gr hg
        replace c2 := c2.gr hg
        replace c3 := c3.gr hg
        replace c7 := c7.gr hg
        replace HQ := fun k => (HQ k).gr hg
        replace Sk := Sk.gr hg
        replace Sx := Sx.gr hg
        replace Sy := Sy.gr hg
        replace So := So.gr hg
        replace To := To.gr hg
        clear hg
        go_upto_region 6 with fail
        refine gen_w (fun u => Gr w u ∧ Vr u (w.heap.size) (crA id (six P A.val B.val N X Y) qc) ∧ Vr u (w.heap.size + 1) (ptA p (ex Q) n q (ey Q) m (ef Q)) ∧ Vr u (w.heap.size + 1 + 1) (ptA none 0 0 none 0 0 false) ∧ Vr u (b7) (ptA (yw5 3 0).1 (ex R1) (yw5 3 0).2 (yw5 3 1).1 (ey R1) (yw5 3 1).2 (ef R1)) ∧ (∀ k, Sl u (qc k).1 (six P A.val B.val N X Y k)) ∧ Sl u pk (k) ∧ Sl u p (ex Q) ∧ Sl u q (ey Q) ∧ Sl u (yw5 3 0).1 (ex R1) ∧ Sl u (yw5 3 1).1 (ey R1)) ⟨gr_setNew G (by omega), c1.other (ne0), c2.other (ne1), c3.other (ne2), c7.set (by rw [ptA_size]; decide) _, fun k => Sl.set (HQ k) (by rw [HT]; exact ptA_no _ _ _ _ _ _ _), Sl.set Sk (by rw [HT]; exact ptA_no _ _ _ _ _ _ _), Sl.set Sx (by rw [HT]; exact ptA_no _ _ _ _ _ _ _), Sl.set Sy (by rw [HT]; exact ptA_no _ _ _ _ _ _ _), Sl.set S5_3 (by rw [HT]; exact ptA_no _ _ _ _ _ _ _), Sl.set T5_3 (by rw [HT]; exact ptA_no _ _ _ _ _ _ _)⟩ ?_
        clear HT FT
        rintro u5 ⟨G, c1, c2, c3, c7, HQ, Sk, Sx, Sy, S5_3, T5_3⟩
        refine wp_wS [.c (.slice pk (dl (k)) nk), .c (.int .i64 (i0 : Int)), .c (.int .i64 1), .c (.bool true)] [2] ?hs4 ?hf4
        case hs4 =>
         refine .cons (.k (fun yy => #[.slice pk (dl (k)) nk, .int .i64 (i0 : Int)]) fun yy vv hg hh => RtW.of_c (Rt.same (hbit _ (Sk.gr hg)))) .nil
        intro yw6 v2 hg h6
        simp only [FW, putFrom, Act.put, List.setIfInBounds_toArray, List.set_cons_zero, List.set_cons_succ, wvals, kW, List.getD_cons_zero, List.getD_cons_succ, Kw.c]
        clear h6
        replace G := G.trans hg
        replace c1 := c1.gr hg
        replace c2 := c2.gr hg
        replace c3 := c3.gr hg
        replace c7 := c7.gr hg
        replace HQ := fun k => (HQ k).gr hg
        replace Sk := Sk.gr hg
        replace Sx := Sx.gr hg
        replace Sy := Sy.gr hg
        replace S5_3 := S5_3.gr hg
        replace T5_3 := T5_3.gr hg
        clear hg
        go_upto_region 7 with fail
        refine wp_wTS 4 [.c (.agg (crA id (six P A.val B.val N X Y) qc)), .c (.agg (ptA (yw5 3 0).1 (ex R1) (yw5 3 0).2 (yw5 3 1).1 (ey R1) (yw5 3 1).2 (ef R1))), .c (.agg (ptA p (ex Q) n q (ey Q) m (ef Q))), .pt (ex R2) (ey R2) (ef R2)] [0, 1, 2, 3] ?hs5 ?hf5
        case hs5 =>
         refine .cons (.g 31 0 c1 rfl) ?_
         refine .cons (.g 41 0 c7 rfl) ?_
         refine .cons (.g 41 0 c2 rfl) ?_
         refine .cons (.k (fun yy => #[.agg (crA id (six P A.val B.val N X Y) qc), .agg (ptA (yw5 3 0).1 (ex R1) (yw5 3 0).2 (yw5 3 1).1 (ey R1) (yw5 3 1).2 (ef R1)), .agg (ptA p (ex Q) n q (ey Q) m (ef Q))]) fun yy vv hg hh => RtW.of_pt (hR2 ▸ rplus_any C hd id N X Y qc R1 Q (yw5 3 0).1 (yw5 3 1).1 (yw5 3 0).2 (yw5 3 1).2 p q n m _ (fun k => (HQ k).gr hg) (S5_3.gr hg) (T5_3.gr hg) (Sx.gr hg) (Sy.gr hg))) .nil
        refine .s 41 (fun yy => .pointer (some ⟨b7, 0, none⟩)) (fun yy => .agg (ptA (yy 3 0).1 (ex R2) (yy 3 0).2 (yy 3 1).1 (ey R2) (yy 3 1).2 (ef R2))) fun yw7 v3 hg h7 => ?_
        have HT := (c7.gr hg).h
        have FT := (c7.gr hg).f
        refine ⟨setBlk v3 (b7) (ptA (yw7 3 0).1 (ex R2) (yw7 3 0).2 (yw7 3 1).1 (ey R2) (yw7 3 1).2 (ef R2)), by simp [go_sem, exI, HT, FT], ?_⟩
        simp only [FW, putFrom, Act.put, List.setIfInBounds_toArray, List.set_cons_zero, List.set_cons_succ, wvals, kW, List.getD_cons_zero, List.getD_cons_succ, Kw.c, Kw.pt]
        obtain ⟨S7_3, T7_3⟩ : Sl v3 (yw7 3 0).1 (ex R2) ∧ Sl v3 (yw7 3 1).1 (ey R2) := h7 3
        clear h7
        replace G := G.trans hg
        replace c1 := c1.gr hg
        replace c2 := c2.gr hg
        replace c3 := c3.gr hg
        replace c7 := c7.gr hg
        replace HQ := fun k => (HQ k).gr hg
        replace Sk := Sk.gr hg
        replace Sx := Sx.gr hg
        replace Sy := Sy.gr hg
        replace S5_3 := S5_3.gr hg
        replace T5_3 := T5_3.gr hg
        clear hg
        go_wp2_with fail
        go_roundw
        case rel =>
          refine ⟨i0, (yw7 3 0).1, (yw7 3 0).2, (yw7 3 1).1, (yw7 3 1).2, by simp, fun _ => HJ2, ?_⟩
          rw [← hR3]
          exact ⟨gr_setNew G (by omega), c1.other ne0, c2.other ne1, c3.other ne2, c7.set (by rw [ptA_size]; decide) _, Sl.set S7_3 (by rw [HT]; exact ptA_no _ _ _ _ _ _ _), Sl.set T7_3 (by rw [HT]; exact ptA_no _ _ _ _ _ _ _)⟩
        case measure => simp [intOf]
    · obtain rfl : j = 0 := by omega
      rw [Nat.pow_zero, Nat.div_one] at HR
      obtain ⟨R, hR⟩ : ∃ R, EC.ml i A k Q = R := ⟨_, rfl⟩
      rw [hR] at HR
      obtain ⟨G, c1, c2, c3, c7, So, To⟩ := HR.out
      obtain ⟨ne0, ne1, ne2, nb7⟩ := HN.out ()
      have ⟨h3, f3, p3⟩ := c3
      have ⟨h7, f7, p7⟩ := c7
      have n2 : ¬ w.heap.size + 1 + 1 = b7 := fun h => ne2 h.symm
      clear HV HR HJ hpos
      go_wp2_with fail
      refine bodyPost_ret (res_one Tryz.results23 (rd_pt po (ex R) no qo (ey R) mo (ef R) (by rfl) ?_)) rfl ⟨_, rfl, ?_, gr_setNew G (by omega)⟩
      · simp [go_sem, h3]
      · rw [hR]
        exact ⟨_, _, _, _, rfl, Sl.set So (by rw [h3]; exact ptA_no _ _ _ _ _ _ _), Sl.set To (by rw [h3]; exact ptA_no _ _ _ _ _ _ _)⟩
end

end Go.Proofs.YtlbkhhihkomahaaGreat
