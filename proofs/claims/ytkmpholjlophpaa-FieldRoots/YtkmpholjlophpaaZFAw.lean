/-
  awake: what every program answers that is one.
-/
import Derived.Test.YtkmpholjlophpaaZFL
import Derived.Test.YtkmpholjlophpaaZEq
namespace Go.Proofs.Ytkmpholjlophpaa
open Go.RowKit
attribute [local go_sem ↓] loadNat_is loadArr_is loadWide_is loadArrW_is storeNat_is storeWide_is
attribute [local go_sem] loadNat loadArr loadWide loadArrW storeNat storeWide idxArr fold9 fold18 nw_size nw_elem pre_self pre_1 pre_2 pre_3 pre_4 pre_5 pre_6 pre_7 pre_8 pre_9 pre_10 pre_11 pre_12 pre_13 pre_14 pre_15 pre_16 pre_17 pre_18 pre_19 pre_20 pre_21 pre_22 pre_23 pre_24 pre_25 pre_26 pre_27 pre_28 pre_29 pre_30 pre_31 pre_32 pre_33 pre_34 pre_35 pre_36 pre_37 pre_38 pre_39 pre_40 gro_size gro_drew gro_drewN drew_gro drewN_gro gro_gro blk_gro frz_gro blk_drew frz_drew blk_drewN frz_drewN blk_alloc_at frz_alloc_at blk_alloc frz_alloc cell_gro frozen_gro cell_alloc_pre frozen_alloc_pre setCell_drewN alloc_drewN setBlk_drew setBlk_drewN setBlk_alloc_at setBlk_alloc setBlk_gro setCell_gro setCell_alloc_pre size_setBlk size_setCell
attribute [local go_sem] nw_ext9 nw_ext18 eqArr9 eqArr18

attribute [local go_sem] loadNat2 loadArr2 loadWide2 loadK_nw ppre_1 ppre_2 ppre_3 ppre_4 ppre_5 ppre_6 ppre_7 ppre_8 ppre_9 ppre_10 ppre_11 ppre_12 ppre_13 ppre_14 ppre_15 ppre_16 ppre_17 ppre_18 ppre_19 ppre_20

attribute [local go_sem ↓] loadC_is storeC_is Go.wp_at_zero Go.wp_at_succ
attribute [local go_sem] eqN_self loadC storeCv cvA_size frz_setBlk blk_setBlk setBlk_setBlk blk_other
set_option maxRecDepth 100000 in
set_option maxHeartbeats 1600000 in
theorem awake5_any (w : World) : Calls Try.prog 19 #[] w fun e w' => e = .returned (.bool true) ∧ Gr w w' := by
  have O250 : Hid (∀ w, Calls Try.prog 33 #[.int .u64 250] w fun e w' => e = .returned (.agg (nw 9 250)) ∧ Gr w w') := fun w => one_any 250 (by decide) w
  have O3 : Hid (∀ w, Calls Try.prog 33 #[.int .u64 3] w fun e w' => e = .returned (.agg (nw 9 3)) ∧ Gr w w') := fun w => one_any 3 (by decide) w
  have O4 : Hid (∀ w, Calls Try.prog 33 #[.int .u64 4] w fun e w' => e = .returned (.agg (nw 9 4)) ∧ Gr w w') := fun w => one_any 4 (by decide) w
  have O1 : Hid (∀ w, Calls Try.prog 33 #[.int .u64 1] w fun e w' => e = .returned (.agg (nw 9 1)) ∧ Gr w w') := fun w => one_any 1 (by decide) w
  have O251 : Hid (∀ w, Calls Try.prog 33 #[.int .u64 251] w fun e w' => e = .returned (.agg (nw 9 251)) ∧ Gr w w') := fun w => one_any 251 (by decide) w
  have O0 : Hid (∀ w, Calls Try.prog 33 #[.int .u64 0] w fun e w' => e = .returned (.agg (nw 9 0)) ∧ Gr w w') := fun w => one_any 0 (by decide) w
  have O2 : Hid (∀ w, Calls Try.prog 33 #[.int .u64 2] w fun e w' => e = .returned (.agg (nw 9 2)) ∧ Gr w w') := fun w => one_any 2 (by decide) w
  have A1 : Hid (∀ w, Calls Try.prog 14 #[.int .i64 13, .agg (nw 9 250), .agg (nw 9 3)] w fun e w' => e = .returned (.tuple #[.agg (nw 9 2), .int .i64 0]) ∧ Gr w w') := fun w => fAdd_ok 13 250 3 (by decide) (by decide) (by decide) (by decide) w
  have A2 : Hid (∀ w, Calls Try.prog 14 #[.int .i64 0, .agg (nw 9 1), .agg (nw 9 1)] w fun e w' => e = .returned (.tuple #[.agg (nw 9 0), .int .i64 500]) ∧ Gr w w') := fun w => fAdd_no 0 (by decide) 1 1 w
  have S1 : Hid (∀ w, Calls Try.prog 29 #[.int .i64 13, .agg (nw 9 4)] w fun e w' => e = .returned (.tuple #[.agg (nw 9 2), .int .i64 0]) ∧ Gr w w') := fun w => fSqrt_ok 13 4 (by decide) (by decide) (by decide) w
  have M1 : Hid (∀ w, Calls Try.prog 16 #[.int .i64 13, .agg (nw 9 251), .agg (nw 9 1)] w fun e w' => e = .returned (.tuple #[.agg (nw 9 0), .int .i64 501]) ∧ Gr w w') := fun w => fMul_range 13 251 1 (by decide) (by decide) (lt_M 251 (by decide)) (lt_M 1 (by decide)) (by decide) w
  have I1 : Hid (∀ w, Calls Try.prog 28 #[.int .i64 13, .agg (nw 9 0)] w fun e w' => e = .returned (.tuple #[.agg (nw 9 0), .int .i64 502]) ∧ Gr w w') := fun w => fInv_zero 13 (by decide) (by decide) w
  go_enter Try.func19, Try.ntmps19
  have HV : Hid (Gr w w) := Gr.refl w
  go_upto_region 1 with fail
  go_cut [1, 2] from 11 to 16 (fun a0 a1 wx => ∃ (b1 : Nat), a0 = .pointer (some ⟨b1, 0, none⟩) ∧ a1 = .int .i64 0 ∧ Hid (Gr w wx ∧ Cl wx b1 2))
  case first =>
    have G := HV.out
    go_wp2_with (first
          | (go_at_call_of 33 ((#[.int .u64 250] : Array Value)); refine (O250.out _).mono ?_; rintro e w' ⟨rfl, gO2501, rfl⟩)
          | (go_at_call_of 33 ((#[.int .u64 3] : Array Value)); refine (O3.out _).mono ?_; rintro e w' ⟨rfl, gO32, rfl⟩)
          | (go_at_call_of 33 ((#[.int .u64 4] : Array Value)); refine (O4.out _).mono ?_; rintro e w' ⟨rfl, gO43, rfl⟩)
          | (go_at_call_of 33 ((#[.int .u64 1] : Array Value)); refine (O1.out _).mono ?_; rintro e w' ⟨rfl, gO14, rfl⟩)
          | (go_at_call_of 33 ((#[.int .u64 251] : Array Value)); refine (O251.out _).mono ?_; rintro e w' ⟨rfl, gO2515, rfl⟩)
          | (go_at_call_of 33 ((#[.int .u64 0] : Array Value)); refine (O0.out _).mono ?_; rintro e w' ⟨rfl, gO06, rfl⟩)
          | (go_at_call_of 33 ((#[.int .u64 2] : Array Value)); refine (O2.out _).mono ?_; rintro e w' ⟨rfl, gO27, rfl⟩)
          | (go_at_call_of 14 ((#[.int .i64 13, .agg (nw 9 250), .agg (nw 9 3)] : Array Value)); refine (A1.out _).mono ?_; rintro e w' ⟨rfl, gA18, rfl⟩)
          | (go_at_call_of 14 ((#[.int .i64 0, .agg (nw 9 1), .agg (nw 9 1)] : Array Value)); refine (A2.out _).mono ?_; rintro e w' ⟨rfl, gA29, rfl⟩)
          | (go_at_call_of 29 ((#[.int .i64 13, .agg (nw 9 4)] : Array Value)); refine (S1.out _).mono ?_; rintro e w' ⟨rfl, gS110, rfl⟩)
          | (go_at_call_of 16 ((#[.int .i64 13, .agg (nw 9 251), .agg (nw 9 1)] : Array Value)); refine (M1.out _).mono ?_; rintro e w' ⟨rfl, gM111, rfl⟩)
          | (go_at_call_of 28 ((#[.int .i64 13, .agg (nw 9 0)] : Array Value)); refine (I1.out _).mono ?_; rintro e w' ⟨rfl, gI112, rfl⟩))
    go_meet
    exact ⟨_, rfl, rfl, G.trans (by repeat (first | exact Gr.refl _ | apply Gr.drewN | apply Gr.drew | apply Gr.alloc | apply Gr.gro)), ⟨by simp [go_sem], by simp [go_sem], by simp [go_sem]⟩⟩
  clear HV
  obtain ⟨b1, rfl, rfl, HV⟩ := hcut
  go_upto_region 2 with fail
  go_cut [3, 4] from 17 to 21 (fun a0 a1 wx => ∃ (b3 : Nat), a0 = .pointer (some ⟨b3, 0, none⟩) ∧ a1 = .int .i64 0 ∧ Hid (Gr w wx ∧ Cl wx b1 2 ∧ Cl wx b3 2))
  case first =>
    have ⟨G, c_b1⟩ := HV.out
    have ⟨hc_b1, fc_b1, pc_b1⟩ := c_b1
    go_wp2_with (first
          | (go_at_call_of 33 ((#[.int .u64 250] : Array Value)); refine (O250.out _).mono ?_; rintro e w' ⟨rfl, gO2501, rfl⟩)
          | (go_at_call_of 33 ((#[.int .u64 3] : Array Value)); refine (O3.out _).mono ?_; rintro e w' ⟨rfl, gO32, rfl⟩)
          | (go_at_call_of 33 ((#[.int .u64 4] : Array Value)); refine (O4.out _).mono ?_; rintro e w' ⟨rfl, gO43, rfl⟩)
          | (go_at_call_of 33 ((#[.int .u64 1] : Array Value)); refine (O1.out _).mono ?_; rintro e w' ⟨rfl, gO14, rfl⟩)
          | (go_at_call_of 33 ((#[.int .u64 251] : Array Value)); refine (O251.out _).mono ?_; rintro e w' ⟨rfl, gO2515, rfl⟩)
          | (go_at_call_of 33 ((#[.int .u64 0] : Array Value)); refine (O0.out _).mono ?_; rintro e w' ⟨rfl, gO06, rfl⟩)
          | (go_at_call_of 33 ((#[.int .u64 2] : Array Value)); refine (O2.out _).mono ?_; rintro e w' ⟨rfl, gO27, rfl⟩)
          | (go_at_call_of 14 ((#[.int .i64 13, .agg (nw 9 250), .agg (nw 9 3)] : Array Value)); refine (A1.out _).mono ?_; rintro e w' ⟨rfl, gA18, rfl⟩)
          | (go_at_call_of 14 ((#[.int .i64 0, .agg (nw 9 1), .agg (nw 9 1)] : Array Value)); refine (A2.out _).mono ?_; rintro e w' ⟨rfl, gA29, rfl⟩)
          | (go_at_call_of 29 ((#[.int .i64 13, .agg (nw 9 4)] : Array Value)); refine (S1.out _).mono ?_; rintro e w' ⟨rfl, gS110, rfl⟩)
          | (go_at_call_of 16 ((#[.int .i64 13, .agg (nw 9 251), .agg (nw 9 1)] : Array Value)); refine (M1.out _).mono ?_; rintro e w' ⟨rfl, gM111, rfl⟩)
          | (go_at_call_of 28 ((#[.int .i64 13, .agg (nw 9 0)] : Array Value)); refine (I1.out _).mono ?_; rintro e w' ⟨rfl, gI112, rfl⟩))
    go_meet
    exact ⟨_, rfl, rfl, G.trans (by repeat (first | exact Gr.refl _ | apply Gr.drewN | apply Gr.drew | apply Gr.alloc | apply Gr.gro)), c_b1.gr (by repeat (first | exact Gr.refl _ | apply Gr.drewN | apply Gr.drew | apply Gr.alloc | apply Gr.gro)), ⟨by simp [go_sem], by simp [go_sem], by simp [go_sem]⟩⟩
  clear HV
  obtain ⟨b3, rfl, rfl, HV⟩ := hcut
  go_upto_region 3 with fail
  go_cut [5, 6] from 22 to 27 (fun a0 a1 wx => ∃ (b5 : Nat), a0 = .pointer (some ⟨b5, 0, none⟩) ∧ a1 = .int .i64 500 ∧ Hid (Gr w wx ∧ Cl wx b1 2 ∧ Cl wx b3 2 ∧ Cl wx b5 0))
  case first =>
    have ⟨G, c_b1, c_b3⟩ := HV.out
    have ⟨hc_b1, fc_b1, pc_b1⟩ := c_b1
    have ⟨hc_b3, fc_b3, pc_b3⟩ := c_b3
    go_wp2_with (first
          | (go_at_call_of 33 ((#[.int .u64 250] : Array Value)); refine (O250.out _).mono ?_; rintro e w' ⟨rfl, gO2501, rfl⟩)
          | (go_at_call_of 33 ((#[.int .u64 3] : Array Value)); refine (O3.out _).mono ?_; rintro e w' ⟨rfl, gO32, rfl⟩)
          | (go_at_call_of 33 ((#[.int .u64 4] : Array Value)); refine (O4.out _).mono ?_; rintro e w' ⟨rfl, gO43, rfl⟩)
          | (go_at_call_of 33 ((#[.int .u64 1] : Array Value)); refine (O1.out _).mono ?_; rintro e w' ⟨rfl, gO14, rfl⟩)
          | (go_at_call_of 33 ((#[.int .u64 251] : Array Value)); refine (O251.out _).mono ?_; rintro e w' ⟨rfl, gO2515, rfl⟩)
          | (go_at_call_of 33 ((#[.int .u64 0] : Array Value)); refine (O0.out _).mono ?_; rintro e w' ⟨rfl, gO06, rfl⟩)
          | (go_at_call_of 33 ((#[.int .u64 2] : Array Value)); refine (O2.out _).mono ?_; rintro e w' ⟨rfl, gO27, rfl⟩)
          | (go_at_call_of 14 ((#[.int .i64 13, .agg (nw 9 250), .agg (nw 9 3)] : Array Value)); refine (A1.out _).mono ?_; rintro e w' ⟨rfl, gA18, rfl⟩)
          | (go_at_call_of 14 ((#[.int .i64 0, .agg (nw 9 1), .agg (nw 9 1)] : Array Value)); refine (A2.out _).mono ?_; rintro e w' ⟨rfl, gA29, rfl⟩)
          | (go_at_call_of 29 ((#[.int .i64 13, .agg (nw 9 4)] : Array Value)); refine (S1.out _).mono ?_; rintro e w' ⟨rfl, gS110, rfl⟩)
          | (go_at_call_of 16 ((#[.int .i64 13, .agg (nw 9 251), .agg (nw 9 1)] : Array Value)); refine (M1.out _).mono ?_; rintro e w' ⟨rfl, gM111, rfl⟩)
          | (go_at_call_of 28 ((#[.int .i64 13, .agg (nw 9 0)] : Array Value)); refine (I1.out _).mono ?_; rintro e w' ⟨rfl, gI112, rfl⟩))
    go_meet
    exact ⟨_, rfl, rfl, G.trans (by repeat (first | exact Gr.refl _ | apply Gr.drewN | apply Gr.drew | apply Gr.alloc | apply Gr.gro)), c_b1.gr (by repeat (first | exact Gr.refl _ | apply Gr.drewN | apply Gr.drew | apply Gr.alloc | apply Gr.gro)), c_b3.gr (by repeat (first | exact Gr.refl _ | apply Gr.drewN | apply Gr.drew | apply Gr.alloc | apply Gr.gro)), ⟨by simp [go_sem], by simp [go_sem], by simp [go_sem]⟩⟩
  clear HV
  obtain ⟨b5, rfl, rfl, HV⟩ := hcut
  go_upto_region 4 with fail
  go_cut [7, 8] from 28 to 33 (fun a0 a1 wx => ∃ (b7 : Nat), a0 = .pointer (some ⟨b7, 0, none⟩) ∧ a1 = .int .i64 501 ∧ Hid (Gr w wx ∧ Cl wx b1 2 ∧ Cl wx b3 2 ∧ Cl wx b5 0 ∧ Cl wx b7 0))
  case first =>
    have ⟨G, c_b1, c_b3, c_b5⟩ := HV.out
    have ⟨hc_b1, fc_b1, pc_b1⟩ := c_b1
    have ⟨hc_b3, fc_b3, pc_b3⟩ := c_b3
    have ⟨hc_b5, fc_b5, pc_b5⟩ := c_b5
    go_wp2_with (first
          | (go_at_call_of 33 ((#[.int .u64 250] : Array Value)); refine (O250.out _).mono ?_; rintro e w' ⟨rfl, gO2501, rfl⟩)
          | (go_at_call_of 33 ((#[.int .u64 3] : Array Value)); refine (O3.out _).mono ?_; rintro e w' ⟨rfl, gO32, rfl⟩)
          | (go_at_call_of 33 ((#[.int .u64 4] : Array Value)); refine (O4.out _).mono ?_; rintro e w' ⟨rfl, gO43, rfl⟩)
          | (go_at_call_of 33 ((#[.int .u64 1] : Array Value)); refine (O1.out _).mono ?_; rintro e w' ⟨rfl, gO14, rfl⟩)
          | (go_at_call_of 33 ((#[.int .u64 251] : Array Value)); refine (O251.out _).mono ?_; rintro e w' ⟨rfl, gO2515, rfl⟩)
          | (go_at_call_of 33 ((#[.int .u64 0] : Array Value)); refine (O0.out _).mono ?_; rintro e w' ⟨rfl, gO06, rfl⟩)
          | (go_at_call_of 33 ((#[.int .u64 2] : Array Value)); refine (O2.out _).mono ?_; rintro e w' ⟨rfl, gO27, rfl⟩)
          | (go_at_call_of 14 ((#[.int .i64 13, .agg (nw 9 250), .agg (nw 9 3)] : Array Value)); refine (A1.out _).mono ?_; rintro e w' ⟨rfl, gA18, rfl⟩)
          | (go_at_call_of 14 ((#[.int .i64 0, .agg (nw 9 1), .agg (nw 9 1)] : Array Value)); refine (A2.out _).mono ?_; rintro e w' ⟨rfl, gA29, rfl⟩)
          | (go_at_call_of 29 ((#[.int .i64 13, .agg (nw 9 4)] : Array Value)); refine (S1.out _).mono ?_; rintro e w' ⟨rfl, gS110, rfl⟩)
          | (go_at_call_of 16 ((#[.int .i64 13, .agg (nw 9 251), .agg (nw 9 1)] : Array Value)); refine (M1.out _).mono ?_; rintro e w' ⟨rfl, gM111, rfl⟩)
          | (go_at_call_of 28 ((#[.int .i64 13, .agg (nw 9 0)] : Array Value)); refine (I1.out _).mono ?_; rintro e w' ⟨rfl, gI112, rfl⟩))
    go_meet
    exact ⟨_, rfl, rfl, G.trans (by repeat (first | exact Gr.refl _ | apply Gr.drewN | apply Gr.drew | apply Gr.alloc | apply Gr.gro)), c_b1.gr (by repeat (first | exact Gr.refl _ | apply Gr.drewN | apply Gr.drew | apply Gr.alloc | apply Gr.gro)), c_b3.gr (by repeat (first | exact Gr.refl _ | apply Gr.drewN | apply Gr.drew | apply Gr.alloc | apply Gr.gro)), c_b5.gr (by repeat (first | exact Gr.refl _ | apply Gr.drewN | apply Gr.drew | apply Gr.alloc | apply Gr.gro)), ⟨by simp [go_sem], by simp [go_sem], by simp [go_sem]⟩⟩
  clear HV
  obtain ⟨b7, rfl, rfl, HV⟩ := hcut
  go_upto_region 5 with fail
  go_cut [9, 10] from 34 to 38 (fun a0 a1 wx => ∃ (b9 : Nat), a0 = .pointer (some ⟨b9, 0, none⟩) ∧ a1 = .int .i64 502 ∧ Hid (Gr w wx ∧ Cl wx b1 2 ∧ Cl wx b3 2 ∧ Cl wx b5 0 ∧ Cl wx b7 0 ∧ Cl wx b9 0))
  case first =>
    have ⟨G, c_b1, c_b3, c_b5, c_b7⟩ := HV.out
    have ⟨hc_b1, fc_b1, pc_b1⟩ := c_b1
    have ⟨hc_b3, fc_b3, pc_b3⟩ := c_b3
    have ⟨hc_b5, fc_b5, pc_b5⟩ := c_b5
    have ⟨hc_b7, fc_b7, pc_b7⟩ := c_b7
    go_wp2_with (first
          | (go_at_call_of 33 ((#[.int .u64 250] : Array Value)); refine (O250.out _).mono ?_; rintro e w' ⟨rfl, gO2501, rfl⟩)
          | (go_at_call_of 33 ((#[.int .u64 3] : Array Value)); refine (O3.out _).mono ?_; rintro e w' ⟨rfl, gO32, rfl⟩)
          | (go_at_call_of 33 ((#[.int .u64 4] : Array Value)); refine (O4.out _).mono ?_; rintro e w' ⟨rfl, gO43, rfl⟩)
          | (go_at_call_of 33 ((#[.int .u64 1] : Array Value)); refine (O1.out _).mono ?_; rintro e w' ⟨rfl, gO14, rfl⟩)
          | (go_at_call_of 33 ((#[.int .u64 251] : Array Value)); refine (O251.out _).mono ?_; rintro e w' ⟨rfl, gO2515, rfl⟩)
          | (go_at_call_of 33 ((#[.int .u64 0] : Array Value)); refine (O0.out _).mono ?_; rintro e w' ⟨rfl, gO06, rfl⟩)
          | (go_at_call_of 33 ((#[.int .u64 2] : Array Value)); refine (O2.out _).mono ?_; rintro e w' ⟨rfl, gO27, rfl⟩)
          | (go_at_call_of 14 ((#[.int .i64 13, .agg (nw 9 250), .agg (nw 9 3)] : Array Value)); refine (A1.out _).mono ?_; rintro e w' ⟨rfl, gA18, rfl⟩)
          | (go_at_call_of 14 ((#[.int .i64 0, .agg (nw 9 1), .agg (nw 9 1)] : Array Value)); refine (A2.out _).mono ?_; rintro e w' ⟨rfl, gA29, rfl⟩)
          | (go_at_call_of 29 ((#[.int .i64 13, .agg (nw 9 4)] : Array Value)); refine (S1.out _).mono ?_; rintro e w' ⟨rfl, gS110, rfl⟩)
          | (go_at_call_of 16 ((#[.int .i64 13, .agg (nw 9 251), .agg (nw 9 1)] : Array Value)); refine (M1.out _).mono ?_; rintro e w' ⟨rfl, gM111, rfl⟩)
          | (go_at_call_of 28 ((#[.int .i64 13, .agg (nw 9 0)] : Array Value)); refine (I1.out _).mono ?_; rintro e w' ⟨rfl, gI112, rfl⟩))
    go_meet
    exact ⟨_, rfl, rfl, G.trans (by repeat (first | exact Gr.refl _ | apply Gr.drewN | apply Gr.drew | apply Gr.alloc | apply Gr.gro)), c_b1.gr (by repeat (first | exact Gr.refl _ | apply Gr.drewN | apply Gr.drew | apply Gr.alloc | apply Gr.gro)), c_b3.gr (by repeat (first | exact Gr.refl _ | apply Gr.drewN | apply Gr.drew | apply Gr.alloc | apply Gr.gro)), c_b5.gr (by repeat (first | exact Gr.refl _ | apply Gr.drewN | apply Gr.drew | apply Gr.alloc | apply Gr.gro)), c_b7.gr (by repeat (first | exact Gr.refl _ | apply Gr.drewN | apply Gr.drew | apply Gr.alloc | apply Gr.gro)), ⟨by simp [go_sem], by simp [go_sem], by simp [go_sem]⟩⟩
  clear HV
  obtain ⟨b9, rfl, rfl, HV⟩ := hcut
  go_upto_region 6 with fail
  obtain ⟨G, c1, c3, c5, c7, c9⟩ := HV.out
  refine wp_region_pred (by kernel_rfl) (by kernel_rfl) [.c (.agg (nw 9 2)), .c (.agg (nw 9 2)), .c (.bool true), .c (.bool true), .c (.int .i64 0), .c (.int .i64 0), .c (.bool true), .c (.bool true), .c (.bool true), .c (.agg (nw 9 2)), .c (.agg (nw 9 2)), .c (.bool true), .c (.bool true), .c (.bool true), .c (.int .i64 0), .c (.int .i64 0), .c (.bool true), .c (.bool true), .c (.bool true), .c (.int .i64 500), .c (.int .i64 500), .c (.bool true), .c (.bool true), .c (.bool true), .c (.int .i64 501), .c (.int .i64 501), .c (.bool true), .c (.bool true), .c (.bool true), .c (.int .i64 502), .c (.int .i64 502), .c (.bool true), .c (.bool true), .c (.bool true)] ?hs ?hf
  case hs =>
    intro listed vals a1 v i o hg hR hF ho hd
    have h1 : blk v b1 = nw 9 2 := (hg.blk _ c1.p).trans c1.h
    have h3 : blk v b3 = nw 9 2 := (hg.blk _ c3.p).trans c3.h
    have hi : i < 34 := by simpa using (Array.getElem?_eq_some_iff.1 ho).1
    obtain rfl | rfl | rfl | rfl | rfl | rfl | rfl | rfl | rfl | rfl | rfl | rfl | rfl | rfl | rfl | rfl | rfl | rfl | rfl | rfl | rfl | rfl | rfl | rfl | rfl | rfl | rfl | rfl | rfl | rfl | rfl | rfl | rfl | rfl : i = 0 ∨ i = 1 ∨ i = 2 ∨ i = 3 ∨ i = 4 ∨ i = 5 ∨ i = 6 ∨ i = 7 ∨ i = 8 ∨ i = 9 ∨ i = 10 ∨ i = 11 ∨ i = 12 ∨ i = 13 ∨ i = 14 ∨ i = 15 ∨ i = 16 ∨ i = 17 ∨ i = 18 ∨ i = 19 ∨ i = 20 ∨ i = 21 ∨ i = 22 ∨ i = 23 ∨ i = 24 ∨ i = 25 ∨ i = 26 ∨ i = 27 ∨ i = 28 ∨ i = 29 ∨ i = 30 ∨ i = 31 ∨ i = 32 ∨ i = 33 := by omega
    · obtain rfl := Option.some.inj ho
      have f0 := hF.old (s := 1) (v := .pointer (some ⟨b1, 0, none⟩)) (by kernel_rfl) rfl
      refine Or.inl ⟨wanted_no rfl, ?_⟩
      exact wp_val (.agg (nw 9 2)) (by simp [go_sem, f0, h1]) ⟨_, rfl, Gr.refl _, rfl⟩
    · obtain rfl := Option.some.inj ho
      refine Or.inl ⟨wanted_no rfl, ?_⟩
      exact wp_ret (.agg (nw 9 2)) (by simp [go_sem]) (O2.out _) (fun w2 hg2 => ⟨_, rfl, hg2, rfl⟩)
    · obtain rfl := Option.some.inj ho
      have l0 := on_of hd 0 (by kernel_rfl)
      have f0 := hF.at (s := 39) (i := 0) (by kernel_rfl) (by simp) l0
      rw [show vals 0 = .agg (nw 9 2) from hR 0 l0] at f0
      have l1 := on_of hd 1 (by kernel_rfl)
      have f1 := hF.at (s := 40) (i := 1) (by kernel_rfl) (by simp) l1
      rw [show vals 1 = .agg (nw 9 2) from hR 1 l1] at f1
      refine Or.inl ⟨wanted_no rfl, ?_⟩
      exact wp_val (.bool true) (by simp [go_sem, f0, f1]) ⟨_, rfl, Gr.refl _, rfl⟩
    · obtain rfl := Option.some.inj ho
      have l0 := on_of hd 2 (by kernel_rfl)
      have f0 := hF.at (s := 41) (i := 2) (by kernel_rfl) (by simp) l0
      rw [show vals 2 = .bool true from hR 2 l0] at f0
      refine Or.inl ⟨wanted_no rfl, ?_⟩
      exact wp_val (.bool true) (by simp [go_sem, f0]) ⟨_, rfl, Gr.refl _, rfl⟩
    · obtain rfl := Option.some.inj ho
      have lg := on_of hd 3 (by kernel_rfl)
      have fg := hF.at (s := 42) (i := 3) (by kernel_rfl) (by simp) lg
      rw [show vals 3 = .bool true from hR 3 lg] at fg
      have f0 := hF.old (s := 2) (v := .int .i64 0) (by kernel_rfl) rfl
      refine Or.inl ⟨wanted_at (j := 3) (s := 42) rfl rfl rfl fg, ?_⟩
      exact wp_val (.int .i64 0) (by simp [go_sem, f0]) ⟨_, rfl, Gr.refl _, rfl⟩
    · obtain rfl := Option.some.inj ho
      have lg := on_of hd 3 (by kernel_rfl)
      have fg := hF.at (s := 42) (i := 3) (by kernel_rfl) (by simp) lg
      rw [show vals 3 = .bool true from hR 3 lg] at fg
      have l0 := on_of hd 4 (by kernel_rfl)
      have f0 := hF.at (s := 43) (i := 4) (by kernel_rfl) (by simp) l0
      rw [show vals 4 = .int .i64 0 from hR 4 l0] at f0
      refine Or.inl ⟨wanted_at (j := 3) (s := 42) rfl rfl rfl fg, ?_⟩
      exact wp_ret (.int .i64 0) (by simp [go_sem, f0]) (num5_gr _ _) (fun w2 hg2 => ⟨_, rfl, hg2, rfl⟩)
    · obtain rfl := Option.some.inj ho
      have lg := on_of hd 3 (by kernel_rfl)
      have fg := hF.at (s := 42) (i := 3) (by kernel_rfl) (by simp) lg
      rw [show vals 3 = .bool true from hR 3 lg] at fg
      have l0 := on_of hd 5 (by kernel_rfl)
      have f0 := hF.at (s := 44) (i := 5) (by kernel_rfl) (by simp) l0
      rw [show vals 5 = .int .i64 0 from hR 5 l0] at f0
      refine Or.inl ⟨wanted_at (j := 3) (s := 42) rfl rfl rfl fg, ?_⟩
      exact wp_val (.bool true) (by simp [go_sem, f0]) ⟨_, rfl, Gr.refl _, rfl⟩
    · obtain rfl := Option.some.inj ho
      have l0 := on_of hd 3 (by kernel_rfl)
      have f0 := hF.at (s := 42) (i := 3) (by kernel_rfl) (by simp) l0
      rw [show vals 3 = .bool true from hR 3 l0] at f0
      have l1 := on_of hd 6 (by kernel_rfl)
      have f1 := hF.at (s := 45) (i := 6) (by kernel_rfl) (by simp) l1
      rw [show vals 6 = .bool true from hR 6 l1] at f1
      refine Or.inl ⟨wanted_no rfl, ?_⟩
      exact wp_val (.bool true) (by simp [go_sem, f0, f1]) ⟨_, rfl, Gr.refl _, rfl⟩
    · obtain rfl := Option.some.inj ho
      have l0 := on_of hd 7 (by kernel_rfl)
      have f0 := hF.at (s := 46) (i := 7) (by kernel_rfl) (by simp) l0
      rw [show vals 7 = .bool true from hR 7 l0] at f0
      refine Or.inl ⟨wanted_no rfl, ?_⟩
      exact wp_val (.bool true) (by simp [go_sem, f0]) ⟨_, rfl, Gr.refl _, rfl⟩
    · obtain rfl := Option.some.inj ho
      have lg := on_of hd 8 (by kernel_rfl)
      have fg := hF.at (s := 47) (i := 8) (by kernel_rfl) (by simp) lg
      rw [show vals 8 = .bool true from hR 8 lg] at fg
      have f0 := hF.old (s := 3) (v := .pointer (some ⟨b3, 0, none⟩)) (by kernel_rfl) rfl
      refine Or.inl ⟨wanted_at (j := 8) (s := 47) rfl rfl rfl fg, ?_⟩
      exact wp_val (.agg (nw 9 2)) (by simp [go_sem, f0, h3]) ⟨_, rfl, Gr.refl _, rfl⟩
    · obtain rfl := Option.some.inj ho
      have lg := on_of hd 8 (by kernel_rfl)
      have fg := hF.at (s := 47) (i := 8) (by kernel_rfl) (by simp) lg
      rw [show vals 8 = .bool true from hR 8 lg] at fg
      refine Or.inl ⟨wanted_at (j := 8) (s := 47) rfl rfl rfl fg, ?_⟩
      exact wp_ret (.agg (nw 9 2)) (by simp [go_sem]) (O2.out _) (fun w2 hg2 => ⟨_, rfl, hg2, rfl⟩)
    · obtain rfl := Option.some.inj ho
      have lg := on_of hd 8 (by kernel_rfl)
      have fg := hF.at (s := 47) (i := 8) (by kernel_rfl) (by simp) lg
      rw [show vals 8 = .bool true from hR 8 lg] at fg
      have l0 := on_of hd 9 (by kernel_rfl)
      have f0 := hF.at (s := 48) (i := 9) (by kernel_rfl) (by simp) l0
      rw [show vals 9 = .agg (nw 9 2) from hR 9 l0] at f0
      have l1 := on_of hd 10 (by kernel_rfl)
      have f1 := hF.at (s := 49) (i := 10) (by kernel_rfl) (by simp) l1
      rw [show vals 10 = .agg (nw 9 2) from hR 10 l1] at f1
      refine Or.inl ⟨wanted_at (j := 8) (s := 47) rfl rfl rfl fg, ?_⟩
      exact wp_val (.bool true) (by simp [go_sem, f0, f1]) ⟨_, rfl, Gr.refl _, rfl⟩
    · obtain rfl := Option.some.inj ho
      have l0 := on_of hd 8 (by kernel_rfl)
      have f0 := hF.at (s := 47) (i := 8) (by kernel_rfl) (by simp) l0
      rw [show vals 8 = .bool true from hR 8 l0] at f0
      have l1 := on_of hd 11 (by kernel_rfl)
      have f1 := hF.at (s := 50) (i := 11) (by kernel_rfl) (by simp) l1
      rw [show vals 11 = .bool true from hR 11 l1] at f1
      refine Or.inl ⟨wanted_no rfl, ?_⟩
      exact wp_val (.bool true) (by simp [go_sem, f0, f1]) ⟨_, rfl, Gr.refl _, rfl⟩
    · obtain rfl := Option.some.inj ho
      have l0 := on_of hd 12 (by kernel_rfl)
      have f0 := hF.at (s := 51) (i := 12) (by kernel_rfl) (by simp) l0
      rw [show vals 12 = .bool true from hR 12 l0] at f0
      refine Or.inl ⟨wanted_no rfl, ?_⟩
      exact wp_val (.bool true) (by simp [go_sem, f0]) ⟨_, rfl, Gr.refl _, rfl⟩
    · obtain rfl := Option.some.inj ho
      have lg := on_of hd 13 (by kernel_rfl)
      have fg := hF.at (s := 52) (i := 13) (by kernel_rfl) (by simp) lg
      rw [show vals 13 = .bool true from hR 13 lg] at fg
      have f0 := hF.old (s := 4) (v := .int .i64 0) (by kernel_rfl) rfl
      refine Or.inl ⟨wanted_at (j := 13) (s := 52) rfl rfl rfl fg, ?_⟩
      exact wp_val (.int .i64 0) (by simp [go_sem, f0]) ⟨_, rfl, Gr.refl _, rfl⟩
    · obtain rfl := Option.some.inj ho
      have lg := on_of hd 13 (by kernel_rfl)
      have fg := hF.at (s := 52) (i := 13) (by kernel_rfl) (by simp) lg
      rw [show vals 13 = .bool true from hR 13 lg] at fg
      have l0 := on_of hd 14 (by kernel_rfl)
      have f0 := hF.at (s := 53) (i := 14) (by kernel_rfl) (by simp) l0
      rw [show vals 14 = .int .i64 0 from hR 14 l0] at f0
      refine Or.inl ⟨wanted_at (j := 13) (s := 52) rfl rfl rfl fg, ?_⟩
      exact wp_ret (.int .i64 0) (by simp [go_sem, f0]) (num5_gr _ _) (fun w2 hg2 => ⟨_, rfl, hg2, rfl⟩)
    · obtain rfl := Option.some.inj ho
      have lg := on_of hd 13 (by kernel_rfl)
      have fg := hF.at (s := 52) (i := 13) (by kernel_rfl) (by simp) lg
      rw [show vals 13 = .bool true from hR 13 lg] at fg
      have l0 := on_of hd 15 (by kernel_rfl)
      have f0 := hF.at (s := 54) (i := 15) (by kernel_rfl) (by simp) l0
      rw [show vals 15 = .int .i64 0 from hR 15 l0] at f0
      refine Or.inl ⟨wanted_at (j := 13) (s := 52) rfl rfl rfl fg, ?_⟩
      exact wp_val (.bool true) (by simp [go_sem, f0]) ⟨_, rfl, Gr.refl _, rfl⟩
    · obtain rfl := Option.some.inj ho
      have l0 := on_of hd 13 (by kernel_rfl)
      have f0 := hF.at (s := 52) (i := 13) (by kernel_rfl) (by simp) l0
      rw [show vals 13 = .bool true from hR 13 l0] at f0
      have l1 := on_of hd 16 (by kernel_rfl)
      have f1 := hF.at (s := 55) (i := 16) (by kernel_rfl) (by simp) l1
      rw [show vals 16 = .bool true from hR 16 l1] at f1
      refine Or.inl ⟨wanted_no rfl, ?_⟩
      exact wp_val (.bool true) (by simp [go_sem, f0, f1]) ⟨_, rfl, Gr.refl _, rfl⟩
    · obtain rfl := Option.some.inj ho
      have l0 := on_of hd 17 (by kernel_rfl)
      have f0 := hF.at (s := 56) (i := 17) (by kernel_rfl) (by simp) l0
      rw [show vals 17 = .bool true from hR 17 l0] at f0
      refine Or.inl ⟨wanted_no rfl, ?_⟩
      exact wp_val (.bool true) (by simp [go_sem, f0]) ⟨_, rfl, Gr.refl _, rfl⟩
    · obtain rfl := Option.some.inj ho
      have lg := on_of hd 18 (by kernel_rfl)
      have fg := hF.at (s := 57) (i := 18) (by kernel_rfl) (by simp) lg
      rw [show vals 18 = .bool true from hR 18 lg] at fg
      have f0 := hF.old (s := 6) (v := .int .i64 500) (by kernel_rfl) rfl
      refine Or.inl ⟨wanted_at (j := 18) (s := 57) rfl rfl rfl fg, ?_⟩
      exact wp_val (.int .i64 500) (by simp [go_sem, f0]) ⟨_, rfl, Gr.refl _, rfl⟩
    · obtain rfl := Option.some.inj ho
      have lg := on_of hd 18 (by kernel_rfl)
      have fg := hF.at (s := 57) (i := 18) (by kernel_rfl) (by simp) lg
      rw [show vals 18 = .bool true from hR 18 lg] at fg
      have l0 := on_of hd 19 (by kernel_rfl)
      have f0 := hF.at (s := 58) (i := 19) (by kernel_rfl) (by simp) l0
      rw [show vals 19 = .int .i64 500 from hR 19 l0] at f0
      refine Or.inl ⟨wanted_at (j := 18) (s := 57) rfl rfl rfl fg, ?_⟩
      exact wp_ret (.int .i64 500) (by simp [go_sem, f0]) (num5_gr _ _) (fun w2 hg2 => ⟨_, rfl, hg2, rfl⟩)
    · obtain rfl := Option.some.inj ho
      have lg := on_of hd 18 (by kernel_rfl)
      have fg := hF.at (s := 57) (i := 18) (by kernel_rfl) (by simp) lg
      rw [show vals 18 = .bool true from hR 18 lg] at fg
      have l0 := on_of hd 20 (by kernel_rfl)
      have f0 := hF.at (s := 59) (i := 20) (by kernel_rfl) (by simp) l0
      rw [show vals 20 = .int .i64 500 from hR 20 l0] at f0
      refine Or.inl ⟨wanted_at (j := 18) (s := 57) rfl rfl rfl fg, ?_⟩
      exact wp_val (.bool true) (by simp [go_sem, f0]) ⟨_, rfl, Gr.refl _, rfl⟩
    · obtain rfl := Option.some.inj ho
      have l0 := on_of hd 18 (by kernel_rfl)
      have f0 := hF.at (s := 57) (i := 18) (by kernel_rfl) (by simp) l0
      rw [show vals 18 = .bool true from hR 18 l0] at f0
      have l1 := on_of hd 21 (by kernel_rfl)
      have f1 := hF.at (s := 60) (i := 21) (by kernel_rfl) (by simp) l1
      rw [show vals 21 = .bool true from hR 21 l1] at f1
      refine Or.inl ⟨wanted_no rfl, ?_⟩
      exact wp_val (.bool true) (by simp [go_sem, f0, f1]) ⟨_, rfl, Gr.refl _, rfl⟩
    · obtain rfl := Option.some.inj ho
      have l0 := on_of hd 22 (by kernel_rfl)
      have f0 := hF.at (s := 61) (i := 22) (by kernel_rfl) (by simp) l0
      rw [show vals 22 = .bool true from hR 22 l0] at f0
      refine Or.inl ⟨wanted_no rfl, ?_⟩
      exact wp_val (.bool true) (by simp [go_sem, f0]) ⟨_, rfl, Gr.refl _, rfl⟩
    · obtain rfl := Option.some.inj ho
      have lg := on_of hd 23 (by kernel_rfl)
      have fg := hF.at (s := 62) (i := 23) (by kernel_rfl) (by simp) lg
      rw [show vals 23 = .bool true from hR 23 lg] at fg
      have f0 := hF.old (s := 8) (v := .int .i64 501) (by kernel_rfl) rfl
      refine Or.inl ⟨wanted_at (j := 23) (s := 62) rfl rfl rfl fg, ?_⟩
      exact wp_val (.int .i64 501) (by simp [go_sem, f0]) ⟨_, rfl, Gr.refl _, rfl⟩
    · obtain rfl := Option.some.inj ho
      have lg := on_of hd 23 (by kernel_rfl)
      have fg := hF.at (s := 62) (i := 23) (by kernel_rfl) (by simp) lg
      rw [show vals 23 = .bool true from hR 23 lg] at fg
      have l0 := on_of hd 24 (by kernel_rfl)
      have f0 := hF.at (s := 63) (i := 24) (by kernel_rfl) (by simp) l0
      rw [show vals 24 = .int .i64 501 from hR 24 l0] at f0
      refine Or.inl ⟨wanted_at (j := 23) (s := 62) rfl rfl rfl fg, ?_⟩
      exact wp_ret (.int .i64 501) (by simp [go_sem, f0]) (num5_gr _ _) (fun w2 hg2 => ⟨_, rfl, hg2, rfl⟩)
    · obtain rfl := Option.some.inj ho
      have lg := on_of hd 23 (by kernel_rfl)
      have fg := hF.at (s := 62) (i := 23) (by kernel_rfl) (by simp) lg
      rw [show vals 23 = .bool true from hR 23 lg] at fg
      have l0 := on_of hd 25 (by kernel_rfl)
      have f0 := hF.at (s := 64) (i := 25) (by kernel_rfl) (by simp) l0
      rw [show vals 25 = .int .i64 501 from hR 25 l0] at f0
      refine Or.inl ⟨wanted_at (j := 23) (s := 62) rfl rfl rfl fg, ?_⟩
      exact wp_val (.bool true) (by simp [go_sem, f0]) ⟨_, rfl, Gr.refl _, rfl⟩
    · obtain rfl := Option.some.inj ho
      have l0 := on_of hd 23 (by kernel_rfl)
      have f0 := hF.at (s := 62) (i := 23) (by kernel_rfl) (by simp) l0
      rw [show vals 23 = .bool true from hR 23 l0] at f0
      have l1 := on_of hd 26 (by kernel_rfl)
      have f1 := hF.at (s := 65) (i := 26) (by kernel_rfl) (by simp) l1
      rw [show vals 26 = .bool true from hR 26 l1] at f1
      refine Or.inl ⟨wanted_no rfl, ?_⟩
      exact wp_val (.bool true) (by simp [go_sem, f0, f1]) ⟨_, rfl, Gr.refl _, rfl⟩
    · obtain rfl := Option.some.inj ho
      have l0 := on_of hd 27 (by kernel_rfl)
      have f0 := hF.at (s := 66) (i := 27) (by kernel_rfl) (by simp) l0
      rw [show vals 27 = .bool true from hR 27 l0] at f0
      refine Or.inl ⟨wanted_no rfl, ?_⟩
      exact wp_val (.bool true) (by simp [go_sem, f0]) ⟨_, rfl, Gr.refl _, rfl⟩
    · obtain rfl := Option.some.inj ho
      have lg := on_of hd 28 (by kernel_rfl)
      have fg := hF.at (s := 67) (i := 28) (by kernel_rfl) (by simp) lg
      rw [show vals 28 = .bool true from hR 28 lg] at fg
      have f0 := hF.old (s := 10) (v := .int .i64 502) (by kernel_rfl) rfl
      refine Or.inl ⟨wanted_at (j := 28) (s := 67) rfl rfl rfl fg, ?_⟩
      exact wp_val (.int .i64 502) (by simp [go_sem, f0]) ⟨_, rfl, Gr.refl _, rfl⟩
    · obtain rfl := Option.some.inj ho
      have lg := on_of hd 28 (by kernel_rfl)
      have fg := hF.at (s := 67) (i := 28) (by kernel_rfl) (by simp) lg
      rw [show vals 28 = .bool true from hR 28 lg] at fg
      have l0 := on_of hd 29 (by kernel_rfl)
      have f0 := hF.at (s := 68) (i := 29) (by kernel_rfl) (by simp) l0
      rw [show vals 29 = .int .i64 502 from hR 29 l0] at f0
      refine Or.inl ⟨wanted_at (j := 28) (s := 67) rfl rfl rfl fg, ?_⟩
      exact wp_ret (.int .i64 502) (by simp [go_sem, f0]) (num5_gr _ _) (fun w2 hg2 => ⟨_, rfl, hg2, rfl⟩)
    · obtain rfl := Option.some.inj ho
      have lg := on_of hd 28 (by kernel_rfl)
      have fg := hF.at (s := 67) (i := 28) (by kernel_rfl) (by simp) lg
      rw [show vals 28 = .bool true from hR 28 lg] at fg
      have l0 := on_of hd 30 (by kernel_rfl)
      have f0 := hF.at (s := 69) (i := 30) (by kernel_rfl) (by simp) l0
      rw [show vals 30 = .int .i64 502 from hR 30 l0] at f0
      refine Or.inl ⟨wanted_at (j := 28) (s := 67) rfl rfl rfl fg, ?_⟩
      exact wp_val (.bool true) (by simp [go_sem, f0]) ⟨_, rfl, Gr.refl _, rfl⟩
    · obtain rfl := Option.some.inj ho
      have l0 := on_of hd 28 (by kernel_rfl)
      have f0 := hF.at (s := 67) (i := 28) (by kernel_rfl) (by simp) l0
      rw [show vals 28 = .bool true from hR 28 l0] at f0
      have l1 := on_of hd 31 (by kernel_rfl)
      have f1 := hF.at (s := 70) (i := 31) (by kernel_rfl) (by simp) l1
      rw [show vals 31 = .bool true from hR 31 l1] at f1
      refine Or.inl ⟨wanted_no rfl, ?_⟩
      exact wp_val (.bool true) (by simp [go_sem, f0, f1]) ⟨_, rfl, Gr.refl _, rfl⟩
    · obtain rfl := Option.some.inj ho
      have l0 := on_of hd 32 (by kernel_rfl)
      have f0 := hF.at (s := 71) (i := 32) (by kernel_rfl) (by simp) l0
      rw [show vals 32 = .bool true from hR 32 l0] at f0
      refine Or.inl ⟨wanted_no rfl, ?_⟩
      exact wp_val (.bool true) (by simp [go_sem, f0]) ⟨_, rfl, Gr.refl _, rfl⟩
  case hf =>
    intro vals v hg hR
    have x0 : vals 0 = .agg (nw 9 2) := hR 0 (by simp)
    have x1 : vals 1 = .agg (nw 9 2) := hR 1 (by simp)
    have x2 : vals 2 = .bool true := hR 2 (by simp)
    have x3 : vals 3 = .bool true := hR 3 (by simp)
    have x4 : vals 4 = .int .i64 0 := hR 4 (by simp)
    have x5 : vals 5 = .int .i64 0 := hR 5 (by simp)
    have x6 : vals 6 = .bool true := hR 6 (by simp)
    have x7 : vals 7 = .bool true := hR 7 (by simp)
    have x8 : vals 8 = .bool true := hR 8 (by simp)
    have x9 : vals 9 = .agg (nw 9 2) := hR 9 (by simp)
    have x10 : vals 10 = .agg (nw 9 2) := hR 10 (by simp)
    have x11 : vals 11 = .bool true := hR 11 (by simp)
    have x12 : vals 12 = .bool true := hR 12 (by simp)
    have x13 : vals 13 = .bool true := hR 13 (by simp)
    have x14 : vals 14 = .int .i64 0 := hR 14 (by simp)
    have x15 : vals 15 = .int .i64 0 := hR 15 (by simp)
    have x16 : vals 16 = .bool true := hR 16 (by simp)
    have x17 : vals 17 = .bool true := hR 17 (by simp)
    have x18 : vals 18 = .bool true := hR 18 (by simp)
    have x19 : vals 19 = .int .i64 500 := hR 19 (by simp)
    have x20 : vals 20 = .int .i64 500 := hR 20 (by simp)
    have x21 : vals 21 = .bool true := hR 21 (by simp)
    have x22 : vals 22 = .bool true := hR 22 (by simp)
    have x23 : vals 23 = .bool true := hR 23 (by simp)
    have x24 : vals 24 = .int .i64 501 := hR 24 (by simp)
    have x25 : vals 25 = .int .i64 501 := hR 25 (by simp)
    have x26 : vals 26 = .bool true := hR 26 (by simp)
    have x27 : vals 27 = .bool true := hR 27 (by simp)
    have x28 : vals 28 = .bool true := hR 28 (by simp)
    have x29 : vals 29 = .int .i64 502 := hR 29 (by simp)
    have x30 : vals 30 = .int .i64 502 := hR 30 (by simp)
    have x31 : vals 31 = .bool true := hR 31 (by simp)
    have x32 : vals 32 = .bool true := hR 32 (by simp)
    have x33 : vals 33 = .bool true := hR 33 (by simp)
    simp only [putFrom, Act.put, List.setIfInBounds_toArray, List.set_cons_zero, List.set_cons_succ, x0, x1, x2, x3, x4, x5, x6, x7, x8, x9, x10, x11, x12, x13, x14, x15, x16, x17, x18, x19, x20, x21, x22, x23, x24, x25, x26, x27, x28, x29, x30, x31, x32, x33]
    clear hR x0 x1 x2 x3 x4 x5 x6 x7 x8 x9 x10 x11 x12 x13 x14 x15 x16 x17 x18 x19 x20 x21 x22 x23 x24 x25 x26 x27 x28 x29 x30 x31 x32 x33
    have HG : Gr w v := G.trans hg
    clear hg
    go_wp2_with fail
    go_ret
    exact ⟨rfl, HG⟩

end Go.Proofs.Ytkmpholjlophpaa
