import Derived.Test.YtgmaalokfgdpaaaXSCQ
import Derived.Test.YtgmaalokfgdpaaaXSLawA
import Derived.Test.YtgmaalokfgdpaaaXSQt
import Derived.Test.YtgmaalokfgdpaaaXSRRow
import Derived.Test.YtgmaalokfgdpaaaXSMixQ
import Derived.Test.YtgmaalokfgdpaaaXSRSub
import Derived.Test.YtgmaalokfgdpaaaXSFB
import Derived.Test.YtgmaalokfgdpaaaXSPC
namespace Go.Proofs.Ytgmaalokfgdpaaa
open Go.RowKit
theorem bl_576 (a : Nat) (h : a < M) : bl a ≤ 576 := by exact bl_pwk a 9 h
/-- How many bytes P has. -/
def szN (i : Nat) : Nat := (bl (pN i) + 7) / 8
/-- For verifying alone? -/
def lgN (i : Nat) : Bool := ((i : Int) == 1) || ((i : Int) == 7)
/-- A curve's cells. -/
def cuN (i : Nat) : Array Value := cu i (pN i) (aN i) (bN i) (oN i) (xN i) (yN i) (bl (oN i)) (szN i) (lgN i)
theorem oN_bd (i : Nat) : oN i < M := by
  unfold oN
  split <;> decide +kernel
theorem pN_M (i : Nat) : pN i < M := by
  unfold pN
  split <;> decide +kernel
theorem find_1 (w : World) : Calls Try.prog 35 #[.int .i64 1] w fun e w' => e = .returned (.tuple #[.agg (cuN 1), .bool true]) ∧ Gr w w' :=
  find_of 1 51 (pN 1) (aN 1) (bN 1) (oN 1) (xN 1) (yN 1) (bl (oN 1)) (bl (pN 1)) (szN 1) _ _ (by decide) (by decide) rfl rfl rfl (by simp [szN]) (bl_576 _ (oN_bd _)) (bl_576 _ (pN_M _)) (fun w => by kernel_rfl) (of_1) mk_1 (fun w => bits_any _ (oN_bd _) w) (fun w => bits_any _ (pN_M _) w) w
theorem find_2 (w : World) : Calls Try.prog 35 #[.int .i64 2] w fun e w' => e = .returned (.tuple #[.agg (cuN 2), .bool true]) ∧ Gr w w' :=
  find_of 2 52 (pN 2) (aN 2) (bN 2) (oN 2) (xN 2) (yN 2) (bl (oN 2)) (bl (pN 2)) (szN 2) _ _ (by decide) (by decide) rfl rfl rfl (by simp [szN]) (bl_576 _ (oN_bd _)) (bl_576 _ (pN_M _)) (fun w => by kernel_rfl) (of_2) mk_2 (fun w => bits_any _ (oN_bd _) w) (fun w => bits_any _ (pN_M _) w) w
theorem find_3 (w : World) : Calls Try.prog 35 #[.int .i64 3] w fun e w' => e = .returned (.tuple #[.agg (cuN 3), .bool true]) ∧ Gr w w' :=
  find_of 3 53 (pN 3) (aN 3) (bN 3) (oN 3) (xN 3) (yN 3) (bl (oN 3)) (bl (pN 3)) (szN 3) _ _ (by decide) (by decide) rfl rfl rfl (by simp [szN]) (bl_576 _ (oN_bd _)) (bl_576 _ (pN_M _)) (fun w => by kernel_rfl) (of_3) mk_3 (fun w => bits_any _ (oN_bd _) w) (fun w => bits_any _ (pN_M _) w) w
theorem find_4 (w : World) : Calls Try.prog 35 #[.int .i64 4] w fun e w' => e = .returned (.tuple #[.agg (cuN 4), .bool true]) ∧ Gr w w' :=
  find_of 4 54 (pN 4) (aN 4) (bN 4) (oN 4) (xN 4) (yN 4) (bl (oN 4)) (bl (pN 4)) (szN 4) _ _ (by decide) (by decide) rfl rfl rfl (by simp [szN]) (bl_576 _ (oN_bd _)) (bl_576 _ (pN_M _)) (fun w => by kernel_rfl) (of_4) mk_4 (fun w => bits_any _ (oN_bd _) w) (fun w => bits_any _ (pN_M _) w) w
theorem find_5 (w : World) : Calls Try.prog 35 #[.int .i64 5] w fun e w' => e = .returned (.tuple #[.agg (cuN 5), .bool true]) ∧ Gr w w' :=
  find_of 5 55 (pN 5) (aN 5) (bN 5) (oN 5) (xN 5) (yN 5) (bl (oN 5)) (bl (pN 5)) (szN 5) _ _ (by decide) (by decide) rfl rfl rfl (by simp [szN]) (bl_576 _ (oN_bd _)) (bl_576 _ (pN_M _)) (fun w => by kernel_rfl) (of_5) mk_5 (fun w => bits_any _ (oN_bd _) w) (fun w => bits_any _ (pN_M _) w) w
theorem find_6 (w : World) : Calls Try.prog 35 #[.int .i64 6] w fun e w' => e = .returned (.tuple #[.agg (cuN 6), .bool true]) ∧ Gr w w' :=
  find_of 6 56 (pN 6) (aN 6) (bN 6) (oN 6) (xN 6) (yN 6) (bl (oN 6)) (bl (pN 6)) (szN 6) _ _ (by decide) (by decide) rfl rfl rfl (by simp [szN]) (bl_576 _ (oN_bd _)) (bl_576 _ (pN_M _)) (fun w => by kernel_rfl) (of_6) mk_6 (fun w => bits_any _ (oN_bd _) w) (fun w => bits_any _ (pN_M _) w) w
theorem find_7 (w : World) : Calls Try.prog 35 #[.int .i64 7] w fun e w' => e = .returned (.tuple #[.agg (cuN 7), .bool true]) ∧ Gr w w' :=
  find_of 7 57 (pN 7) (aN 7) (bN 7) (oN 7) (xN 7) (yN 7) (bl (oN 7)) (bl (pN 7)) (szN 7) _ _ (by decide) (by decide) rfl rfl rfl (by simp [szN]) (bl_576 _ (oN_bd _)) (bl_576 _ (pN_M _)) (fun w => by kernel_rfl) (of_7) mk_7 (fun w => bits_any _ (oN_bd _) w) (fun w => bits_any _ (pN_M _) w) w
theorem find_8 (w : World) : Calls Try.prog 35 #[.int .i64 8] w fun e w' => e = .returned (.tuple #[.agg (cuN 8), .bool true]) ∧ Gr w w' :=
  find_of 8 58 (pN 8) (aN 8) (bN 8) (oN 8) (xN 8) (yN 8) (bl (oN 8)) (bl (pN 8)) (szN 8) _ _ (by decide) (by decide) rfl rfl rfl (by simp [szN]) (bl_576 _ (oN_bd _)) (bl_576 _ (pN_M _)) (fun w => by kernel_rfl) (of_8) mk_8 (fun w => bits_any _ (oN_bd _) w) (fun w => bits_any _ (pN_M _) w) w
theorem find_9 (w : World) : Calls Try.prog 35 #[.int .i64 9] w fun e w' => e = .returned (.tuple #[.agg (cuN 9), .bool true]) ∧ Gr w w' :=
  find_of 9 59 (pN 9) (aN 9) (bN 9) (oN 9) (xN 9) (yN 9) (bl (oN 9)) (bl (pN 9)) (szN 9) _ _ (by decide) (by decide) rfl rfl rfl (by simp [szN]) (bl_576 _ (oN_bd _)) (bl_576 _ (pN_M _)) (fun w => by kernel_rfl) (of_9) mk_9 (fun w => bits_any _ (oN_bd _) w) (fun w => bits_any _ (pN_M _) w) w
theorem find_10 (w : World) : Calls Try.prog 35 #[.int .i64 10] w fun e w' => e = .returned (.tuple #[.agg (cuN 10), .bool true]) ∧ Gr w w' :=
  find_of 10 60 (pN 10) (aN 10) (bN 10) (oN 10) (xN 10) (yN 10) (bl (oN 10)) (bl (pN 10)) (szN 10) _ _ (by decide) (by decide) rfl rfl rfl (by simp [szN]) (bl_576 _ (oN_bd _)) (bl_576 _ (pN_M _)) (fun w => by kernel_rfl) (of_10) mk_10 (fun w => bits_any _ (oN_bd _) w) (fun w => bits_any _ (pN_M _) w) w
theorem find_11 (w : World) : Calls Try.prog 35 #[.int .i64 11] w fun e w' => e = .returned (.tuple #[.agg (cuN 11), .bool true]) ∧ Gr w w' :=
  find_of 11 61 (pN 11) (aN 11) (bN 11) (oN 11) (xN 11) (yN 11) (bl (oN 11)) (bl (pN 11)) (szN 11) _ _ (by decide) (by decide) rfl rfl rfl (by simp [szN]) (bl_576 _ (oN_bd _)) (bl_576 _ (pN_M _)) (fun w => by kernel_rfl) (of_11) mk_11 (fun w => bits_any _ (oN_bd _) w) (fun w => bits_any _ (pN_M _) w) w
theorem find_12 (w : World) : Calls Try.prog 35 #[.int .i64 12] w fun e w' => e = .returned (.tuple #[.agg (cuN 12), .bool true]) ∧ Gr w w' :=
  find_of 12 62 (pN 12) (aN 12) (bN 12) (oN 12) (xN 12) (yN 12) (bl (oN 12)) (bl (pN 12)) (szN 12) _ _ (by decide) (by decide) rfl rfl rfl (by simp [szN]) (bl_576 _ (oN_bd _)) (bl_576 _ (pN_M _)) (fun w => by kernel_rfl) (of_12) mk_12 (fun w => bits_any _ (oN_bd _) w) (fun w => bits_any _ (pN_M _) w) w
theorem find_13 (w : World) : Calls Try.prog 35 #[.int .i64 13] w fun e w' => e = .returned (.tuple #[.agg (cuN 13), .bool true]) ∧ Gr w w' :=
  find_of 13 63 (pN 13) (aN 13) (bN 13) (oN 13) (xN 13) (yN 13) (bl (oN 13)) (bl (pN 13)) (szN 13) _ _ (by decide) (by decide) rfl rfl rfl (by simp [szN]) (bl_576 _ (oN_bd _)) (bl_576 _ (pN_M _)) (fun w => by kernel_rfl) (of_13) mk_13 (fun w => bits_any _ (oN_bd _) w) (fun w => bits_any _ (pN_M _) w) w
theorem find_14 (w : World) : Calls Try.prog 35 #[.int .i64 14] w fun e w' => e = .returned (.tuple #[.agg (cuN 14), .bool true]) ∧ Gr w w' :=
  find_of 14 64 (pN 14) (aN 14) (bN 14) (oN 14) (xN 14) (yN 14) (bl (oN 14)) (bl (pN 14)) (szN 14) _ _ (by decide) (by decide) rfl rfl rfl (by simp [szN]) (bl_576 _ (oN_bd _)) (bl_576 _ (pN_M _)) (fun w => by kernel_rfl) (of_14) mk_14 (fun w => bits_any _ (oN_bd _) w) (fun w => bits_any _ (pN_M _) w) w
theorem find_15 (w : World) : Calls Try.prog 35 #[.int .i64 15] w fun e w' => e = .returned (.tuple #[.agg (cuN 15), .bool true]) ∧ Gr w w' :=
  find_of 15 65 (pN 15) (aN 15) (bN 15) (oN 15) (xN 15) (yN 15) (bl (oN 15)) (bl (pN 15)) (szN 15) _ _ (by decide) (by decide) rfl rfl rfl (by simp [szN]) (bl_576 _ (oN_bd _)) (bl_576 _ (pN_M _)) (fun w => by kernel_rfl) (of_15) mk_15 (fun w => bits_any _ (oN_bd _) w) (fun w => bits_any _ (pN_M _) w) w
theorem find_yes (i : Nat) (h1 : 1 ≤ i) (h2 : i ≤ 15) (w : World) : Calls Try.prog 35 #[.int .i64 (i : Int)] w fun e w' => e = .returned (.tuple #[.agg (cuN i), .bool true]) ∧ Gr w w' := by
  obtain rfl | rfl | rfl | rfl | rfl | rfl | rfl | rfl | rfl | rfl | rfl | rfl | rfl | rfl | rfl : i = 1 ∨ i = 2 ∨ i = 3 ∨ i = 4 ∨ i = 5 ∨ i = 6 ∨ i = 7 ∨ i = 8 ∨ i = 9 ∨ i = 10 ∨ i = 11 ∨ i = 12 ∨ i = 13 ∨ i = 14 ∨ i = 15 := by omega
  · exact find_1 w
  · exact find_2 w
  · exact find_3 w
  · exact find_4 w
  · exact find_5 w
  · exact find_6 w
  · exact find_7 w
  · exact find_8 w
  · exact find_9 w
  · exact find_10 w
  · exact find_11 w
  · exact find_12 w
  · exact find_13 w
  · exact find_14 w
  · exact find_15 w
attribute [local go_sem ↓] loadNat_is loadArr_is loadWide_is loadArrW_is storeNat_is storeWide_is
attribute [local go_sem] loadNat loadArr loadWide loadArrW storeNat storeWide idxArr fold9 fold18 nw_size nw_elem pre_self pre_1 pre_2 pre_3 pre_4 pre_5 pre_6 pre_7 pre_8 pre_9 pre_10 pre_11 pre_12 pre_13 pre_14 pre_15 pre_16 pre_17 pre_18 pre_19 pre_20 pre_21 pre_22 pre_23 pre_24 pre_25 pre_26 pre_27 pre_28 pre_29 pre_30 pre_31 pre_32 pre_33 pre_34 pre_35 pre_36 pre_37 pre_38 pre_39 pre_40 gro_size gro_drew gro_drewN drew_gro drewN_gro gro_gro blk_gro frz_gro blk_drew frz_drew blk_drewN frz_drewN blk_alloc_at frz_alloc_at blk_alloc frz_alloc cell_gro frozen_gro cell_alloc_pre frozen_alloc_pre setCell_drewN alloc_drewN setBlk_drew setBlk_drewN setBlk_alloc_at setBlk_alloc setBlk_gro setCell_gro setCell_alloc_pre size_setBlk size_setCell
attribute [local go_sem] ppre_1 ppre_2 ppre_3 ppre_4 ppre_5 ppre_6
attribute [local go_sem ↓] zvCu_is zvEq_is storeCu_is storeEq_is loadCu_is loadEq_is loadPn_is buildCu_is buildEq_is buildPn_is Go.wp_at_zero Go.wp_at_succ
attribute [local go_sem] zvCu zvEq storeCu storeEq loadCu loadEq loadPn loadCP loadCA loadCB loadPX loadPY buildCu0 buildEq0 buildPnI cu_size cu_P cu_A cu_B pnt_size pnt_X pnt_Y frz_setBlk blk_setBlk setBlk_setBlk blk_other
set_option maxRecDepth 100000 in
set_option maxHeartbeats 400000 in
theorem get13_no (x : Int) (h : x < 1 ∨ 15 < x) (w : World) : Calls Try.prog 9 #[.int .i64 x] w fun e w' => e = .returned (.tuple #[.agg (cu 0 0 0 0 0 0 0 0 0 false), .int .i64 1300]) ∧ Gr w w' := by
  have HF : Hid (∀ w, Calls Try.prog 35 #[.int .i64 x] w fun e w' => e = .returned (.tuple #[.agg (cu 0 0 0 0 0 0 0 0 0 false), .bool false]) ∧ Gr w w') := fun w => find_no x h w
  clear h
  go_enter Try.func9, Try.ntmps9
  go_wp2_with (go_at_call 35; refine (HF.out _).mono ?_; rintro e w' ⟨rfl, g, rfl⟩)
  refine bodyPost_ret (res_two Try.results9 (rd_cu (by rfl) ?_) (rd_tmp (by rfl))) rfl ⟨rfl, (by repeat (first | exact Gr.refl _ | apply Gr.drewN | apply Gr.drew | apply Gr.alloc | apply Gr.gro))⟩
  simp [go_sem]
set_option maxRecDepth 100000 in
set_option maxHeartbeats 400000 in
theorem get13_of (x : Int) (id : Int) (P A B N X Y : Nat) (s z : Int) (l : Bool) (HF' : ∀ w, Calls Try.prog 35 #[.int .i64 x] w fun e w' => e = .returned (.tuple #[.agg (cu id P A B N X Y s z l), .bool true]) ∧ Gr w w') (w : World) :
    Calls Try.prog 9 #[.int .i64 x] w fun e w' => e = .returned (.tuple #[.agg (cu id P A B N X Y s z l), .int .i64 0]) ∧ Gr w w' := by
  have HF : Hid (∀ w, Calls Try.prog 35 #[.int .i64 x] w fun e w' => e = .returned (.tuple #[.agg (cu id P A B N X Y s z l), .bool true]) ∧ Gr w w') := HF'
  clear HF'
  go_enter Try.func9, Try.ntmps9
  go_wp2_with (go_at_call 35; refine (HF.out _).mono ?_; rintro e w' ⟨rfl, g, rfl⟩)
  refine bodyPost_ret (res_two Try.results9 (rd_cu (by rfl) ?_) (rd_tmp (by rfl))) rfl ⟨rfl, (by repeat (first | exact Gr.refl _ | apply Gr.drewN | apply Gr.drew | apply Gr.alloc | apply Gr.gro))⟩
  simp [go_sem]
/-- What Get answers of a curve. -/
theorem get13_yes (i : Nat) (h1 : 1 ≤ i) (h2 : i ≤ 15) (w : World) : Calls Try.prog 9 #[.int .i64 (i : Int)] w fun e w' => e = .returned (.tuple #[.agg (cuN i), .int .i64 0]) ∧ Gr w w' :=
  get13_of i _ _ _ _ _ _ _ _ _ _ (find_yes i h1 h2) w
set_option maxRecDepth 100000 in
set_option maxHeartbeats 400000 in
theorem below13_any (id : Int) (P A B N X Y : Nat) (s z : Int) (l : Bool) (a : Nat) (f : Bool) (hP : P < M) (ha : a < M) (hf : decide (a < P) = f) (w : World) :
    Calls Try.prog 66 #[.agg (cu id P A B N X Y s z l), .agg (nw 9 a)] w fun e w' => e = .returned (.bool f) ∧ Gr w w' := by
  obtain ⟨c, hc⟩ : ∃ c, cmpZ a P = c := ⟨_, rfl⟩
  have HC : Hid (∀ w, Calls Try.prog 77 #[.agg (nw 9 a), .agg (nw 9 P)] w fun e w' => e = .returned (.int .i64 c) ∧ Gr w w') := fun w => hc ▸ cmp_any a P ha hP w
  have hd : decide (c < 0) = f := by
    rw [← hf, ← hc]; unfold cmpZ
    by_cases h : a < P
    · simp [h]
    · simp only [h, if_false]; split <;> simp
  clear hc hf hP ha
  go_enter Try.func66, Try.ntmps66
  go_wp2_with (go_at_call 77; refine (HC.out _).mono ?_; rintro e w' ⟨rfl, g, rfl⟩)
  go_ret
  exact ⟨rfl, (by repeat (first | exact Gr.refl _ | apply Gr.drewN | apply Gr.drew | apply Gr.alloc | apply Gr.gro))⟩
set_option maxRecDepth 100000 in
set_option maxHeartbeats 400000 in
theorem left13_of (id : Int) (P A B N X Y : Nat) (s z : Int) (l : Bool) (y q1 : Nat)
    (H1' : ∀ w, Calls Try.prog 78 #[.int .i64 id, .agg (nw 9 y), .agg (nw 9 y)] w fun e w' => e = .returned (.tuple #[.agg (nw 9 q1), .int .i64 0]) ∧ Gr w w') (w : World) :
    Calls Try.prog 67 #[.agg (cu id P A B N X Y s z l), .agg (nw 9 y)] w fun e w' => e = .returned (.agg (nw 9 q1)) ∧ Gr w w' := by
  have H1 : Hid (∀ w, Calls Try.prog 78 #[.int .i64 id, .agg (nw 9 y), .agg (nw 9 y)] w fun e w' => e = .returned (.tuple #[.agg (nw 9 q1), .int .i64 0]) ∧ Gr w w') := H1'
  clear H1'
  go_enter Try.func67, Try.ntmps67
  go_upto_region 1 with fail
  refine gen_w (fun v => Hid (Gr w v ∧ Vr v w.heap.size (cu id P A B N X Y s z l) ∧ Vr v (w.heap.size + 1) (nw 9 y) ∧ Vr v (w.heap.size + 1 + 1) (nw 9 0))) ⟨(by repeat (first | exact Gr.refl _ | apply Gr.drewN | apply Gr.drew | apply Gr.alloc | apply Gr.gro)), ⟨by simp [go_sem], by simp [go_sem], by simp [go_sem]⟩, ⟨by simp [go_sem], by simp [go_sem], by simp [go_sem]⟩, ⟨by simp [go_sem], by simp [go_sem], by simp [go_sem]⟩⟩ ?_
  intro v0 HV
  obtain ⟨G, c0, c1, c2⟩ := HV.out
  have k0 : v0.cell? ⟨w.heap.size, 0, none⟩ = some (.int .i64 id) := by rw [c0.cell]; exact cu_0 id P A B N X Y s z l
  have ⟨h0, f0, p0⟩ := c0
  have ⟨h1, f1, p1⟩ := c1
  have ⟨h2, f2, p2⟩ := c2
  have ⟨p01, p02, p03, p04, p05, p06⟩ := c0.pp
  have ⟨p11, p12, p13, p14, p15, p16⟩ := c1.pp
  have ⟨p21, p22, p23, p24, p25, p26⟩ := c2.pp
  clear HV c0 c1 c2
  go_wp2_with (go_at_call 78; refine (H1.out _).mono ?_; rintro e w' ⟨rfl, g, rfl⟩)
  refine bodyPost_ret (res_one Try.results67 (rd_nat (x := q1) (by rfl) ?_)) rfl ⟨rfl, ?_⟩
  · simp [go_sem, *]
  · repeat (first | exact G | apply Gr.drewN | apply Gr.drew | apply Gr.alloc | apply Gr.gro | (refine gr_setNew ?_ (by omega)))
set_option maxRecDepth 100000 in
set_option maxHeartbeats 800000 in
theorem right13_of (id : Int) (P A B N X Y : Nat) (s z : Int) (l : Bool) (x q1 q2 q3 q4 : Nat)
    (H1' : ∀ w, Calls Try.prog 78 #[.int .i64 id, .agg (nw 9 x), .agg (nw 9 x)] w fun e w' => e = .returned (.tuple #[.agg (nw 9 q1), .int .i64 0]) ∧ Gr w w') (H2' : ∀ w, Calls Try.prog 79 #[.int .i64 id, .agg (nw 9 q1), .agg (nw 9 A)] w fun e w' => e = .returned (.tuple #[.agg (nw 9 q2), .int .i64 0]) ∧ Gr w w') (H3' : ∀ w, Calls Try.prog 78 #[.int .i64 id, .agg (nw 9 q2), .agg (nw 9 x)] w fun e w' => e = .returned (.tuple #[.agg (nw 9 q3), .int .i64 0]) ∧ Gr w w') (H4' : ∀ w, Calls Try.prog 79 #[.int .i64 id, .agg (nw 9 q3), .agg (nw 9 B)] w fun e w' => e = .returned (.tuple #[.agg (nw 9 q4), .int .i64 0]) ∧ Gr w w') (w : World) :
    Calls Try.prog 68 #[.agg (cu id P A B N X Y s z l), .agg (nw 9 x)] w fun e w' => e = .returned (.agg (nw 9 q4)) ∧ Gr w w' := by
  have H1 : Hid (∀ w, Calls Try.prog 78 #[.int .i64 id, .agg (nw 9 x), .agg (nw 9 x)] w fun e w' => e = .returned (.tuple #[.agg (nw 9 q1), .int .i64 0]) ∧ Gr w w') := H1'
  have H2 : Hid (∀ w, Calls Try.prog 79 #[.int .i64 id, .agg (nw 9 q1), .agg (nw 9 A)] w fun e w' => e = .returned (.tuple #[.agg (nw 9 q2), .int .i64 0]) ∧ Gr w w') := H2'
  have H3 : Hid (∀ w, Calls Try.prog 78 #[.int .i64 id, .agg (nw 9 q2), .agg (nw 9 x)] w fun e w' => e = .returned (.tuple #[.agg (nw 9 q3), .int .i64 0]) ∧ Gr w w') := H3'
  have H4 : Hid (∀ w, Calls Try.prog 79 #[.int .i64 id, .agg (nw 9 q3), .agg (nw 9 B)] w fun e w' => e = .returned (.tuple #[.agg (nw 9 q4), .int .i64 0]) ∧ Gr w w') := H4'
  clear H1' H2' H3' H4'
  go_enter Try.func68, Try.ntmps68
  go_upto_region 1 with fail
  refine gen_w (fun v => Hid (Gr w v ∧ Vr v w.heap.size (cu id P A B N X Y s z l) ∧ Vr v (w.heap.size + 1) (nw 9 x) ∧ Vr v (w.heap.size + 1 + 1) (nw 9 0))) ⟨(by repeat (first | exact Gr.refl _ | apply Gr.drewN | apply Gr.drew | apply Gr.alloc | apply Gr.gro)), ⟨by simp [go_sem], by simp [go_sem], by simp [go_sem]⟩, ⟨by simp [go_sem], by simp [go_sem], by simp [go_sem]⟩, ⟨by simp [go_sem], by simp [go_sem], by simp [go_sem]⟩⟩ ?_
  intro v0 HV
  obtain ⟨G, c0, c1, c2⟩ := HV.out
  have k0 : v0.cell? ⟨w.heap.size, 0, none⟩ = some (.int .i64 id) := by rw [c0.cell]; exact cu_0 id P A B N X Y s z l
  have ⟨h0, f0, p0⟩ := c0
  have ⟨h1, f1, p1⟩ := c1
  have ⟨h2, f2, p2⟩ := c2
  have ⟨p01, p02, p03, p04, p05, p06⟩ := c0.pp
  have ⟨p11, p12, p13, p14, p15, p16⟩ := c1.pp
  have ⟨p21, p22, p23, p24, p25, p26⟩ := c2.pp
  clear HV c0 c1 c2
  go_wp2_with (first
    | (go_at_call_of 78 ((#[.int .i64 id, .agg (nw 9 x), .agg (nw 9 x)] : Array Value)); refine (H1.out _).mono ?_; rintro e w' ⟨rfl, g0, rfl⟩)
    | (go_at_call_of 79 ((#[.int .i64 id, .agg (nw 9 q1), .agg (nw 9 A)] : Array Value)); refine (H2.out _).mono ?_; rintro e w' ⟨rfl, g1, rfl⟩)
    | (go_at_call_of 78 ((#[.int .i64 id, .agg (nw 9 q2), .agg (nw 9 x)] : Array Value)); refine (H3.out _).mono ?_; rintro e w' ⟨rfl, g2, rfl⟩)
    | (go_at_call_of 79 ((#[.int .i64 id, .agg (nw 9 q3), .agg (nw 9 B)] : Array Value)); refine (H4.out _).mono ?_; rintro e w' ⟨rfl, g3, rfl⟩))
  refine bodyPost_ret (res_one Try.results68 (rd_nat (x := q4) (by rfl) ?_)) rfl ⟨rfl, ?_⟩
  · simp [go_sem, *]
  · repeat (first | exact G | apply Gr.drewN | apply Gr.drew | apply Gr.alloc | apply Gr.gro | (refine gr_setNew ?_ (by omega)))
set_option maxRecDepth 100000 in
set_option maxHeartbeats 400000 in
theorem holds_inf (id : Int) (P A B N X Y : Nat) (s z : Int) (l : Bool) (x y : Nat) (w : World) :
    Calls Try.prog 41 #[.agg (cu id P A B N X Y s z l), .agg (pnt x y true)] w fun e w' => e = .returned (.bool (eqN 9 x 0 && (eqN 9 y 0 && true))) ∧ Gr w w' := by
  have hq : ∀ w, (binOp .eql 27 (.agg (pnt x y true)) (.agg (pnt 0 0 true))).run Try.prog w = .ok (.bool (eqN 9 x 0 && (eqN 9 y 0 && true))) w := fun w => eqPn x y true 0 0 true w
  go_enter Try.func41, Try.ntmps41
  go_upto_region 1 with fail
  refine gen_w (fun v => Hid (Gr w v ∧ Vr v (w.heap.size + 1) (pnt x y true))) ⟨(by repeat (first | exact Gr.refl _ | apply Gr.drewN | apply Gr.drew | apply Gr.alloc | apply Gr.gro)), ⟨by simp [go_sem], by simp [go_sem], by simp [go_sem]⟩⟩ ?_
  intro v0 HV
  obtain ⟨G, c1⟩ := HV.out
  have k1 : v0.cell? ⟨w.heap.size + 1, 18, none⟩ = some (.bool true) := by rw [c1.cell]; exact pnt_18 x y true
  have ⟨h1, f1, p1⟩ := c1
  clear HV c1
  go_wp2_with fail
  go_ret
  exact ⟨by simp, G⟩
set_option maxRecDepth 100000 in
set_option maxHeartbeats 1600000 in
theorem holds_of (id : Int) (P A B N X Y : Nat) (s z : Int) (l : Bool) (x y L R : Nat) (bx by' : Bool)
    (HBx' : ∀ w, Calls Try.prog 66 #[.agg (cu id P A B N X Y s z l), .agg (nw 9 x)] w fun e w' => e = .returned (.bool bx) ∧ Gr w w') (HBy' : ∀ w, Calls Try.prog 66 #[.agg (cu id P A B N X Y s z l), .agg (nw 9 y)] w fun e w' => e = .returned (.bool by') ∧ Gr w w')
    (HL' : bx = true → by' = true → ∀ w, Calls Try.prog 67 #[.agg (cu id P A B N X Y s z l), .agg (nw 9 y)] w fun e w' => e = .returned (.agg (nw 9 L)) ∧ Gr w w')
    (HR' : bx = true → by' = true → ∀ w, Calls Try.prog 68 #[.agg (cu id P A B N X Y s z l), .agg (nw 9 x)] w fun e w' => e = .returned (.agg (nw 9 R)) ∧ Gr w w') (w : World) :
    Calls Try.prog 41 #[.agg (cu id P A B N X Y s z l), .agg (pnt x y false)] w fun e w' => e = .returned (.bool (bx && (by' && eqN 9 L R))) ∧ Gr w w' := by
  have HBx : Hid (∀ w, Calls Try.prog 66 #[.agg (cu id P A B N X Y s z l), .agg (nw 9 x)] w fun e w' => e = .returned (.bool bx) ∧ Gr w w') := HBx'
  have HBy : Hid (∀ w, Calls Try.prog 66 #[.agg (cu id P A B N X Y s z l), .agg (nw 9 y)] w fun e w' => e = .returned (.bool by') ∧ Gr w w') := HBy'
  have HL := HL'
  have HR := HR'
  clear HL' HR' HBx' HBy'
  rcases (by cases bx <;> cases by' <;> simp : (bx = false) ∨ (bx = true ∧ by' = false) ∨ (bx = true ∧ by' = true)) with rfl | ⟨rfl, rfl⟩ | ⟨rfl, rfl⟩
  · clear HL HR
    go_enter Try.func41, Try.ntmps41
    go_upto_region 3 with fail
    refine gen_w (fun v => Hid (Gr w v ∧ Vr v w.heap.size (cu id P A B N X Y s z l) ∧ Vr v (w.heap.size + 1) (pnt x y false))) ⟨(by repeat (first | exact Gr.refl _ | apply Gr.drewN | apply Gr.drew | apply Gr.alloc | apply Gr.gro)), ⟨by simp [go_sem], by simp [go_sem], by simp [go_sem]⟩, ⟨by simp [go_sem], by simp [go_sem], by simp [go_sem]⟩⟩ ?_
    intro v0 HV
    obtain ⟨G, c2, c3⟩ := HV.out
    refine wp_region_q (by kernel_rfl) (by kernel_rfl) [.c (.agg (cu id P A B N X Y s z l)), .c (.pointer (some ⟨w.heap.size + 1, 0, none⟩)), .c (.agg (nw 9 x)), .c (.bool false), .c (.bool false), .top, .top, .top, .top, .c (.bool false), .c (.bool false), .top, .top, .top, .top, .top, .top, .top, .top, .top, .c (.bool false), .c (.bool false)] ?hs ?hf
    case hs =>
      intro listed vals a1 v io oo hg hR hF ho hd
      have H2 : blk v (w.heap.size) = cu id P A B N X Y s z l := (hg.blk _ c2.p).trans c2.h
      have H3 : blk v (w.heap.size + 1) = pnt x y false := (hg.blk _ c3.p).trans c3.h
      have hi : io < 22 := by simpa using (Array.getElem?_eq_some_iff.1 ho).1
      obtain rfl | rfl | rfl | rfl | rfl | rfl | rfl | rfl | rfl | rfl | rfl | rfl | rfl | rfl | rfl | rfl | rfl | rfl | rfl | rfl | rfl | rfl : io = 0 ∨ io = 1 ∨ io = 2 ∨ io = 3 ∨ io = 4 ∨ io = 5 ∨ io = 6 ∨ io = 7 ∨ io = 8 ∨ io = 9 ∨ io = 10 ∨ io = 11 ∨ io = 12 ∨ io = 13 ∨ io = 14 ∨ io = 15 ∨ io = 16 ∨ io = 17 ∨ io = 18 ∨ io = 19 ∨ io = 20 ∨ io = 21 := by omega
      · obtain rfl := Option.some.inj ho
        have f0 := hF.old (s := 2) (v := .pointer (some ⟨w.heap.size, 0, none⟩)) (by kernel_rfl) rfl
        refine Or.inl ⟨wanted_no rfl, ?_⟩
        exact wp_val (.agg (cu id P A B N X Y s z l)) (by simp [go_sem, f0, H2]) ⟨_, rfl, Gr.refl _, rfl⟩
      · obtain rfl := Option.some.inj ho
        have f0 := hF.old (s := 3) (v := .pointer (some ⟨w.heap.size + 1, 0, none⟩)) (by kernel_rfl) rfl
        refine Or.inl ⟨wanted_no rfl, ?_⟩
        exact wp_val (.pointer (some ⟨w.heap.size + 1, 0, none⟩)) (by simp [go_sem, f0]) ⟨_, rfl, Gr.refl _, rfl⟩
      · obtain rfl := Option.some.inj ho
        have l0 := on_of hd 1 (by kernel_rfl)
        have f0 := hF.at (s := 11) (i := 1) (by kernel_rfl) (by simp) l0
        have e0 : vals 1 = .pointer (some ⟨w.heap.size + 1, 0, none⟩) := hR 1 l0
        rw [e0] at f0
        refine Or.inl ⟨wanted_no rfl, ?_⟩
        exact wp_val (.agg (nw 9 x)) (by simp [go_sem, f0, H3]) ⟨_, rfl, Gr.refl _, rfl⟩
      · obtain rfl := Option.some.inj ho
        have l0 := on_of hd 0 (by kernel_rfl)
        have f0 := hF.at (s := 10) (i := 0) (by kernel_rfl) (by simp) l0
        have e0 : vals 0 = .agg (cu id P A B N X Y s z l) := hR 0 l0
        rw [e0] at f0
        have l1 := on_of hd 2 (by kernel_rfl)
        have f1 := hF.at (s := 12) (i := 2) (by kernel_rfl) (by simp) l1
        have e1 : vals 2 = .agg (nw 9 x) := hR 2 l1
        rw [e1] at f1
        refine Or.inl ⟨wanted_no rfl, ?_⟩
        exact wp_retz (k := .c (.bool false)) (by simp [go_sem, f0, f1]) (Rt.c (HBx.out v)) (fun u w2 hu hg2 => ⟨_, rfl, hg2, hu⟩)
      · obtain rfl := Option.some.inj ho
        have l0 := on_of hd 3 (by kernel_rfl)
        have f0 := hF.at (s := 13) (i := 3) (by kernel_rfl) (by simp) l0
        have e0 : vals 3 = .bool false := hR 3 l0
        rw [e0] at f0
        refine Or.inl ⟨wanted_no rfl, ?_⟩
        exact wp_val (.bool false) (by simp [go_sem, f0]) ⟨_, rfl, Gr.refl _, rfl⟩
      · obtain rfl := Option.some.inj ho
        have lg := on_of hd 4 (by kernel_rfl)
        have fg := hF.at (s := 14) (i := 4) (by kernel_rfl) (by simp) lg
        rw [show vals 4 = .bool false from hR 4 lg] at fg
        exact Or.inr ⟨unwanted_at (j := 4) (s := 14) rfl rfl rfl fg (by decide), trivial⟩
      · obtain rfl := Option.some.inj ho
        have lg := on_of hd 4 (by kernel_rfl)
        have fg := hF.at (s := 14) (i := 4) (by kernel_rfl) (by simp) lg
        rw [show vals 4 = .bool false from hR 4 lg] at fg
        exact Or.inr ⟨unwanted_at (j := 4) (s := 14) rfl rfl rfl fg (by decide), trivial⟩
      · obtain rfl := Option.some.inj ho
        have lg := on_of hd 4 (by kernel_rfl)
        have fg := hF.at (s := 14) (i := 4) (by kernel_rfl) (by simp) lg
        rw [show vals 4 = .bool false from hR 4 lg] at fg
        exact Or.inr ⟨unwanted_at (j := 4) (s := 14) rfl rfl rfl fg (by decide), trivial⟩
      · obtain rfl := Option.some.inj ho
        have lg := on_of hd 4 (by kernel_rfl)
        have fg := hF.at (s := 14) (i := 4) (by kernel_rfl) (by simp) lg
        rw [show vals 4 = .bool false from hR 4 lg] at fg
        exact Or.inr ⟨unwanted_at (j := 4) (s := 14) rfl rfl rfl fg (by decide), trivial⟩
      · obtain rfl := Option.some.inj ho
        have l0 := on_of hd 4 (by kernel_rfl)
        have f0 := hF.at (s := 14) (i := 4) (by kernel_rfl) (by simp) l0
        have e0 : vals 4 = .bool false := hR 4 l0
        rw [e0] at f0
        have l1 := on_of hd 8 (by kernel_rfl)
        have f1 := hF.at (s := 18) (i := 8) (by kernel_rfl) (by simp) l1
        refine Or.inl ⟨wanted_no rfl, ?_⟩
        exact wp_val (.bool false) (by simp [go_sem, f0, f1]) ⟨_, rfl, Gr.refl _, rfl⟩
      · obtain rfl := Option.some.inj ho
        have l0 := on_of hd 9 (by kernel_rfl)
        have f0 := hF.at (s := 19) (i := 9) (by kernel_rfl) (by simp) l0
        have e0 : vals 9 = .bool false := hR 9 l0
        rw [e0] at f0
        refine Or.inl ⟨wanted_no rfl, ?_⟩
        exact wp_val (.bool false) (by simp [go_sem, f0]) ⟨_, rfl, Gr.refl _, rfl⟩
      · obtain rfl := Option.some.inj ho
        have lg := on_of hd 10 (by kernel_rfl)
        have fg := hF.at (s := 20) (i := 10) (by kernel_rfl) (by simp) lg
        rw [show vals 10 = .bool false from hR 10 lg] at fg
        exact Or.inr ⟨unwanted_at (j := 10) (s := 20) rfl rfl rfl fg (by decide), trivial⟩
      · obtain rfl := Option.some.inj ho
        have lg := on_of hd 10 (by kernel_rfl)
        have fg := hF.at (s := 20) (i := 10) (by kernel_rfl) (by simp) lg
        rw [show vals 10 = .bool false from hR 10 lg] at fg
        exact Or.inr ⟨unwanted_at (j := 10) (s := 20) rfl rfl rfl fg (by decide), trivial⟩
      · obtain rfl := Option.some.inj ho
        have lg := on_of hd 10 (by kernel_rfl)
        have fg := hF.at (s := 20) (i := 10) (by kernel_rfl) (by simp) lg
        rw [show vals 10 = .bool false from hR 10 lg] at fg
        exact Or.inr ⟨unwanted_at (j := 10) (s := 20) rfl rfl rfl fg (by decide), trivial⟩
      · obtain rfl := Option.some.inj ho
        have lg := on_of hd 10 (by kernel_rfl)
        have fg := hF.at (s := 20) (i := 10) (by kernel_rfl) (by simp) lg
        rw [show vals 10 = .bool false from hR 10 lg] at fg
        exact Or.inr ⟨unwanted_at (j := 10) (s := 20) rfl rfl rfl fg (by decide), trivial⟩
      · obtain rfl := Option.some.inj ho
        have lg := on_of hd 10 (by kernel_rfl)
        have fg := hF.at (s := 20) (i := 10) (by kernel_rfl) (by simp) lg
        rw [show vals 10 = .bool false from hR 10 lg] at fg
        exact Or.inr ⟨unwanted_at (j := 10) (s := 20) rfl rfl rfl fg (by decide), trivial⟩
      · obtain rfl := Option.some.inj ho
        have lg := on_of hd 10 (by kernel_rfl)
        have fg := hF.at (s := 20) (i := 10) (by kernel_rfl) (by simp) lg
        rw [show vals 10 = .bool false from hR 10 lg] at fg
        exact Or.inr ⟨unwanted_at (j := 10) (s := 20) rfl rfl rfl fg (by decide), trivial⟩
      · obtain rfl := Option.some.inj ho
        have lg := on_of hd 10 (by kernel_rfl)
        have fg := hF.at (s := 20) (i := 10) (by kernel_rfl) (by simp) lg
        rw [show vals 10 = .bool false from hR 10 lg] at fg
        exact Or.inr ⟨unwanted_at (j := 10) (s := 20) rfl rfl rfl fg (by decide), trivial⟩
      · obtain rfl := Option.some.inj ho
        have lg := on_of hd 10 (by kernel_rfl)
        have fg := hF.at (s := 20) (i := 10) (by kernel_rfl) (by simp) lg
        rw [show vals 10 = .bool false from hR 10 lg] at fg
        exact Or.inr ⟨unwanted_at (j := 10) (s := 20) rfl rfl rfl fg (by decide), trivial⟩
      · obtain rfl := Option.some.inj ho
        have lg := on_of hd 10 (by kernel_rfl)
        have fg := hF.at (s := 20) (i := 10) (by kernel_rfl) (by simp) lg
        rw [show vals 10 = .bool false from hR 10 lg] at fg
        exact Or.inr ⟨unwanted_at (j := 10) (s := 20) rfl rfl rfl fg (by decide), trivial⟩
      · obtain rfl := Option.some.inj ho
        have l0 := on_of hd 10 (by kernel_rfl)
        have f0 := hF.at (s := 20) (i := 10) (by kernel_rfl) (by simp) l0
        have e0 : vals 10 = .bool false := hR 10 l0
        rw [e0] at f0
        have l1 := on_of hd 19 (by kernel_rfl)
        have f1 := hF.at (s := 29) (i := 19) (by kernel_rfl) (by simp) l1
        refine Or.inl ⟨wanted_no rfl, ?_⟩
        exact wp_val (.bool false) (by simp [go_sem, f0, f1]) ⟨_, rfl, Gr.refl _, rfl⟩
      · obtain rfl := Option.some.inj ho
        have l0 := on_of hd 20 (by kernel_rfl)
        have f0 := hF.at (s := 30) (i := 20) (by kernel_rfl) (by simp) l0
        have e0 : vals 20 = .bool false := hR 20 l0
        rw [e0] at f0
        refine Or.inl ⟨wanted_no rfl, ?_⟩
        exact wp_val (.bool false) (by simp [go_sem, f0]) ⟨_, rfl, Gr.refl _, rfl⟩
    case hf =>
      intro vals v hg hR
      have H2 : blk v (w.heap.size) = cu id P A B N X Y s z l := (hg.blk _ c2.p).trans c2.h
      have H3 : blk v (w.heap.size + 1) = pnt x y false := (hg.blk _ c3.p).trans c3.h
      have e100 : vals 0 = .agg (cu id P A B N X Y s z l) := hR 0 (by simp)
      have e101 : vals 1 = .pointer (some ⟨w.heap.size + 1, 0, none⟩) := hR 1 (by simp)
      have e102 : vals 2 = .agg (nw 9 x) := hR 2 (by simp)
      have e103 : vals 3 = .bool false := hR 3 (by simp)
      have e104 : vals 4 = .bool false := hR 4 (by simp)
      have e109 : vals 9 = .bool false := hR 9 (by simp)
      have e110 : vals 10 = .bool false := hR 10 (by simp)
      have e120 : vals 20 = .bool false := hR 20 (by simp)
      have e121 : vals 21 = .bool false := hR 21 (by simp)
      simp only [putFrom, Act.put, List.setIfInBounds_toArray, List.set_cons_zero, List.set_cons_succ, e100, e101, e102, e103, e104, e109, e110, e120, e121]
      clear hR e100 e101 e102 e103 e104 e109 e110 e120 e121
      have HG : Gr w v := G.trans hg
      clear hg
      go_wp2_with fail
      go_ret
      exact ⟨rfl, HG⟩
  · clear HL HR
    go_enter Try.func41, Try.ntmps41
    go_upto_region 3 with fail
    refine gen_w (fun v => Hid (Gr w v ∧ Vr v w.heap.size (cu id P A B N X Y s z l) ∧ Vr v (w.heap.size + 1) (pnt x y false))) ⟨(by repeat (first | exact Gr.refl _ | apply Gr.drewN | apply Gr.drew | apply Gr.alloc | apply Gr.gro)), ⟨by simp [go_sem], by simp [go_sem], by simp [go_sem]⟩, ⟨by simp [go_sem], by simp [go_sem], by simp [go_sem]⟩⟩ ?_
    intro v0 HV
    obtain ⟨G, c2, c3⟩ := HV.out
    refine wp_region_q (by kernel_rfl) (by kernel_rfl) [.c (.agg (cu id P A B N X Y s z l)), .c (.pointer (some ⟨w.heap.size + 1, 0, none⟩)), .c (.agg (nw 9 x)), .c (.bool true), .c (.bool true), .c (.agg (cu id P A B N X Y s z l)), .c (.pointer (some ⟨w.heap.size + 1, 9, none⟩)), .c (.agg (nw 9 y)), .c (.bool false), .c (.bool false), .c (.bool false), .top, .top, .top, .top, .top, .top, .top, .top, .top, .c (.bool false), .c (.bool false)] ?hs ?hf
    case hs =>
      intro listed vals a1 v io oo hg hR hF ho hd
      have H2 : blk v (w.heap.size) = cu id P A B N X Y s z l := (hg.blk _ c2.p).trans c2.h
      have H3 : blk v (w.heap.size + 1) = pnt x y false := (hg.blk _ c3.p).trans c3.h
      have hi : io < 22 := by simpa using (Array.getElem?_eq_some_iff.1 ho).1
      obtain rfl | rfl | rfl | rfl | rfl | rfl | rfl | rfl | rfl | rfl | rfl | rfl | rfl | rfl | rfl | rfl | rfl | rfl | rfl | rfl | rfl | rfl : io = 0 ∨ io = 1 ∨ io = 2 ∨ io = 3 ∨ io = 4 ∨ io = 5 ∨ io = 6 ∨ io = 7 ∨ io = 8 ∨ io = 9 ∨ io = 10 ∨ io = 11 ∨ io = 12 ∨ io = 13 ∨ io = 14 ∨ io = 15 ∨ io = 16 ∨ io = 17 ∨ io = 18 ∨ io = 19 ∨ io = 20 ∨ io = 21 := by omega
      · obtain rfl := Option.some.inj ho
        have f0 := hF.old (s := 2) (v := .pointer (some ⟨w.heap.size, 0, none⟩)) (by kernel_rfl) rfl
        refine Or.inl ⟨wanted_no rfl, ?_⟩
        exact wp_val (.agg (cu id P A B N X Y s z l)) (by simp [go_sem, f0, H2]) ⟨_, rfl, Gr.refl _, rfl⟩
      · obtain rfl := Option.some.inj ho
        have f0 := hF.old (s := 3) (v := .pointer (some ⟨w.heap.size + 1, 0, none⟩)) (by kernel_rfl) rfl
        refine Or.inl ⟨wanted_no rfl, ?_⟩
        exact wp_val (.pointer (some ⟨w.heap.size + 1, 0, none⟩)) (by simp [go_sem, f0]) ⟨_, rfl, Gr.refl _, rfl⟩
      · obtain rfl := Option.some.inj ho
        have l0 := on_of hd 1 (by kernel_rfl)
        have f0 := hF.at (s := 11) (i := 1) (by kernel_rfl) (by simp) l0
        have e0 : vals 1 = .pointer (some ⟨w.heap.size + 1, 0, none⟩) := hR 1 l0
        rw [e0] at f0
        refine Or.inl ⟨wanted_no rfl, ?_⟩
        exact wp_val (.agg (nw 9 x)) (by simp [go_sem, f0, H3]) ⟨_, rfl, Gr.refl _, rfl⟩
      · obtain rfl := Option.some.inj ho
        have l0 := on_of hd 0 (by kernel_rfl)
        have f0 := hF.at (s := 10) (i := 0) (by kernel_rfl) (by simp) l0
        have e0 : vals 0 = .agg (cu id P A B N X Y s z l) := hR 0 l0
        rw [e0] at f0
        have l1 := on_of hd 2 (by kernel_rfl)
        have f1 := hF.at (s := 12) (i := 2) (by kernel_rfl) (by simp) l1
        have e1 : vals 2 = .agg (nw 9 x) := hR 2 l1
        rw [e1] at f1
        refine Or.inl ⟨wanted_no rfl, ?_⟩
        exact wp_retz (k := .c (.bool true)) (by simp [go_sem, f0, f1]) (Rt.c (HBx.out v)) (fun u w2 hu hg2 => ⟨_, rfl, hg2, hu⟩)
      · obtain rfl := Option.some.inj ho
        have l0 := on_of hd 3 (by kernel_rfl)
        have f0 := hF.at (s := 13) (i := 3) (by kernel_rfl) (by simp) l0
        have e0 : vals 3 = .bool true := hR 3 l0
        rw [e0] at f0
        refine Or.inl ⟨wanted_no rfl, ?_⟩
        exact wp_val (.bool true) (by simp [go_sem, f0]) ⟨_, rfl, Gr.refl _, rfl⟩
      · obtain rfl := Option.some.inj ho
        have lg := on_of hd 4 (by kernel_rfl)
        have fg := hF.at (s := 14) (i := 4) (by kernel_rfl) (by simp) lg
        rw [show vals 4 = .bool true from hR 4 lg] at fg
        have f0 := hF.old (s := 2) (v := .pointer (some ⟨w.heap.size, 0, none⟩)) (by kernel_rfl) rfl
        refine Or.inl ⟨wanted_at (j := 4) (s := 14) rfl rfl rfl fg, ?_⟩
        exact wp_val (.agg (cu id P A B N X Y s z l)) (by simp [go_sem, f0, H2]) ⟨_, rfl, Gr.refl _, rfl⟩
      · obtain rfl := Option.some.inj ho
        have lg := on_of hd 4 (by kernel_rfl)
        have fg := hF.at (s := 14) (i := 4) (by kernel_rfl) (by simp) lg
        rw [show vals 4 = .bool true from hR 4 lg] at fg
        have f0 := hF.old (s := 3) (v := .pointer (some ⟨w.heap.size + 1, 0, none⟩)) (by kernel_rfl) rfl
        refine Or.inl ⟨wanted_at (j := 4) (s := 14) rfl rfl rfl fg, ?_⟩
        exact wp_val (.pointer (some ⟨w.heap.size + 1, 9, none⟩)) (by simp [go_sem, f0]) ⟨_, rfl, Gr.refl _, rfl⟩
      · obtain rfl := Option.some.inj ho
        have lg := on_of hd 4 (by kernel_rfl)
        have fg := hF.at (s := 14) (i := 4) (by kernel_rfl) (by simp) lg
        rw [show vals 4 = .bool true from hR 4 lg] at fg
        have l0 := on_of hd 6 (by kernel_rfl)
        have f0 := hF.at (s := 16) (i := 6) (by kernel_rfl) (by simp) l0
        have e0 : vals 6 = .pointer (some ⟨w.heap.size + 1, 9, none⟩) := hR 6 l0
        rw [e0] at f0
        refine Or.inl ⟨wanted_at (j := 4) (s := 14) rfl rfl rfl fg, ?_⟩
        exact wp_val (.agg (nw 9 y)) (by simp [go_sem, f0, H3]) ⟨_, rfl, Gr.refl _, rfl⟩
      · obtain rfl := Option.some.inj ho
        have lg := on_of hd 4 (by kernel_rfl)
        have fg := hF.at (s := 14) (i := 4) (by kernel_rfl) (by simp) lg
        rw [show vals 4 = .bool true from hR 4 lg] at fg
        have l0 := on_of hd 5 (by kernel_rfl)
        have f0 := hF.at (s := 15) (i := 5) (by kernel_rfl) (by simp) l0
        have e0 : vals 5 = .agg (cu id P A B N X Y s z l) := hR 5 l0
        rw [e0] at f0
        have l1 := on_of hd 7 (by kernel_rfl)
        have f1 := hF.at (s := 17) (i := 7) (by kernel_rfl) (by simp) l1
        have e1 : vals 7 = .agg (nw 9 y) := hR 7 l1
        rw [e1] at f1
        refine Or.inl ⟨wanted_at (j := 4) (s := 14) rfl rfl rfl fg, ?_⟩
        exact wp_retz (k := .c (.bool false)) (by simp [go_sem, f0, f1]) (Rt.c (HBy.out v)) (fun u w2 hu hg2 => ⟨_, rfl, hg2, hu⟩)
      · obtain rfl := Option.some.inj ho
        have l0 := on_of hd 4 (by kernel_rfl)
        have f0 := hF.at (s := 14) (i := 4) (by kernel_rfl) (by simp) l0
        have e0 : vals 4 = .bool true := hR 4 l0
        rw [e0] at f0
        have l1 := on_of hd 8 (by kernel_rfl)
        have f1 := hF.at (s := 18) (i := 8) (by kernel_rfl) (by simp) l1
        have e1 : vals 8 = .bool false := hR 8 l1
        rw [e1] at f1
        refine Or.inl ⟨wanted_no rfl, ?_⟩
        exact wp_val (.bool false) (by simp [go_sem, f0, f1]) ⟨_, rfl, Gr.refl _, rfl⟩
      · obtain rfl := Option.some.inj ho
        have l0 := on_of hd 9 (by kernel_rfl)
        have f0 := hF.at (s := 19) (i := 9) (by kernel_rfl) (by simp) l0
        have e0 : vals 9 = .bool false := hR 9 l0
        rw [e0] at f0
        refine Or.inl ⟨wanted_no rfl, ?_⟩
        exact wp_val (.bool false) (by simp [go_sem, f0]) ⟨_, rfl, Gr.refl _, rfl⟩
      · obtain rfl := Option.some.inj ho
        have lg := on_of hd 10 (by kernel_rfl)
        have fg := hF.at (s := 20) (i := 10) (by kernel_rfl) (by simp) lg
        rw [show vals 10 = .bool false from hR 10 lg] at fg
        exact Or.inr ⟨unwanted_at (j := 10) (s := 20) rfl rfl rfl fg (by decide), trivial⟩
      · obtain rfl := Option.some.inj ho
        have lg := on_of hd 10 (by kernel_rfl)
        have fg := hF.at (s := 20) (i := 10) (by kernel_rfl) (by simp) lg
        rw [show vals 10 = .bool false from hR 10 lg] at fg
        exact Or.inr ⟨unwanted_at (j := 10) (s := 20) rfl rfl rfl fg (by decide), trivial⟩
      · obtain rfl := Option.some.inj ho
        have lg := on_of hd 10 (by kernel_rfl)
        have fg := hF.at (s := 20) (i := 10) (by kernel_rfl) (by simp) lg
        rw [show vals 10 = .bool false from hR 10 lg] at fg
        exact Or.inr ⟨unwanted_at (j := 10) (s := 20) rfl rfl rfl fg (by decide), trivial⟩
      · obtain rfl := Option.some.inj ho
        have lg := on_of hd 10 (by kernel_rfl)
        have fg := hF.at (s := 20) (i := 10) (by kernel_rfl) (by simp) lg
        rw [show vals 10 = .bool false from hR 10 lg] at fg
        exact Or.inr ⟨unwanted_at (j := 10) (s := 20) rfl rfl rfl fg (by decide), trivial⟩
      · obtain rfl := Option.some.inj ho
        have lg := on_of hd 10 (by kernel_rfl)
        have fg := hF.at (s := 20) (i := 10) (by kernel_rfl) (by simp) lg
        rw [show vals 10 = .bool false from hR 10 lg] at fg
        exact Or.inr ⟨unwanted_at (j := 10) (s := 20) rfl rfl rfl fg (by decide), trivial⟩
      · obtain rfl := Option.some.inj ho
        have lg := on_of hd 10 (by kernel_rfl)
        have fg := hF.at (s := 20) (i := 10) (by kernel_rfl) (by simp) lg
        rw [show vals 10 = .bool false from hR 10 lg] at fg
        exact Or.inr ⟨unwanted_at (j := 10) (s := 20) rfl rfl rfl fg (by decide), trivial⟩
      · obtain rfl := Option.some.inj ho
        have lg := on_of hd 10 (by kernel_rfl)
        have fg := hF.at (s := 20) (i := 10) (by kernel_rfl) (by simp) lg
        rw [show vals 10 = .bool false from hR 10 lg] at fg
        exact Or.inr ⟨unwanted_at (j := 10) (s := 20) rfl rfl rfl fg (by decide), trivial⟩
      · obtain rfl := Option.some.inj ho
        have lg := on_of hd 10 (by kernel_rfl)
        have fg := hF.at (s := 20) (i := 10) (by kernel_rfl) (by simp) lg
        rw [show vals 10 = .bool false from hR 10 lg] at fg
        exact Or.inr ⟨unwanted_at (j := 10) (s := 20) rfl rfl rfl fg (by decide), trivial⟩
      · obtain rfl := Option.some.inj ho
        have lg := on_of hd 10 (by kernel_rfl)
        have fg := hF.at (s := 20) (i := 10) (by kernel_rfl) (by simp) lg
        rw [show vals 10 = .bool false from hR 10 lg] at fg
        exact Or.inr ⟨unwanted_at (j := 10) (s := 20) rfl rfl rfl fg (by decide), trivial⟩
      · obtain rfl := Option.some.inj ho
        have l0 := on_of hd 10 (by kernel_rfl)
        have f0 := hF.at (s := 20) (i := 10) (by kernel_rfl) (by simp) l0
        have e0 : vals 10 = .bool false := hR 10 l0
        rw [e0] at f0
        have l1 := on_of hd 19 (by kernel_rfl)
        have f1 := hF.at (s := 29) (i := 19) (by kernel_rfl) (by simp) l1
        refine Or.inl ⟨wanted_no rfl, ?_⟩
        exact wp_val (.bool false) (by simp [go_sem, f0, f1]) ⟨_, rfl, Gr.refl _, rfl⟩
      · obtain rfl := Option.some.inj ho
        have l0 := on_of hd 20 (by kernel_rfl)
        have f0 := hF.at (s := 30) (i := 20) (by kernel_rfl) (by simp) l0
        have e0 : vals 20 = .bool false := hR 20 l0
        rw [e0] at f0
        refine Or.inl ⟨wanted_no rfl, ?_⟩
        exact wp_val (.bool false) (by simp [go_sem, f0]) ⟨_, rfl, Gr.refl _, rfl⟩
    case hf =>
      intro vals v hg hR
      have H2 : blk v (w.heap.size) = cu id P A B N X Y s z l := (hg.blk _ c2.p).trans c2.h
      have H3 : blk v (w.heap.size + 1) = pnt x y false := (hg.blk _ c3.p).trans c3.h
      have e100 : vals 0 = .agg (cu id P A B N X Y s z l) := hR 0 (by simp)
      have e101 : vals 1 = .pointer (some ⟨w.heap.size + 1, 0, none⟩) := hR 1 (by simp)
      have e102 : vals 2 = .agg (nw 9 x) := hR 2 (by simp)
      have e103 : vals 3 = .bool true := hR 3 (by simp)
      have e104 : vals 4 = .bool true := hR 4 (by simp)
      have e105 : vals 5 = .agg (cu id P A B N X Y s z l) := hR 5 (by simp)
      have e106 : vals 6 = .pointer (some ⟨w.heap.size + 1, 9, none⟩) := hR 6 (by simp)
      have e107 : vals 7 = .agg (nw 9 y) := hR 7 (by simp)
      have e108 : vals 8 = .bool false := hR 8 (by simp)
      have e109 : vals 9 = .bool false := hR 9 (by simp)
      have e110 : vals 10 = .bool false := hR 10 (by simp)
      have e120 : vals 20 = .bool false := hR 20 (by simp)
      have e121 : vals 21 = .bool false := hR 21 (by simp)
      simp only [putFrom, Act.put, List.setIfInBounds_toArray, List.set_cons_zero, List.set_cons_succ, e100, e101, e102, e103, e104, e105, e106, e107, e108, e109, e110, e120, e121]
      clear hR e100 e101 e102 e103 e104 e105 e106 e107 e108 e109 e110 e120 e121
      have HG : Gr w v := G.trans hg
      clear hg
      go_wp2_with fail
      go_ret
      exact ⟨rfl, HG⟩
  · replace HL : Hid (∀ w, Calls Try.prog 67 #[.agg (cu id P A B N X Y s z l), .agg (nw 9 y)] w fun e w' => e = .returned (.agg (nw 9 L)) ∧ Gr w w') := HL rfl rfl
    replace HR : Hid (∀ w, Calls Try.prog 68 #[.agg (cu id P A B N X Y s z l), .agg (nw 9 x)] w fun e w' => e = .returned (.agg (nw 9 R)) ∧ Gr w w') := HR rfl rfl
    go_enter Try.func41, Try.ntmps41
    go_upto_region 3 with fail
    refine gen_w (fun v => Hid (Gr w v ∧ Vr v w.heap.size (cu id P A B N X Y s z l) ∧ Vr v (w.heap.size + 1) (pnt x y false))) ⟨(by repeat (first | exact Gr.refl _ | apply Gr.drewN | apply Gr.drew | apply Gr.alloc | apply Gr.gro)), ⟨by simp [go_sem], by simp [go_sem], by simp [go_sem]⟩, ⟨by simp [go_sem], by simp [go_sem], by simp [go_sem]⟩⟩ ?_
    intro v0 HV
    obtain ⟨G, c2, c3⟩ := HV.out
    refine wp_region_q (by kernel_rfl) (by kernel_rfl) [.c (.agg (cu id P A B N X Y s z l)), .c (.pointer (some ⟨w.heap.size + 1, 0, none⟩)), .c (.agg (nw 9 x)), .c (.bool true), .c (.bool true), .c (.agg (cu id P A B N X Y s z l)), .c (.pointer (some ⟨w.heap.size + 1, 9, none⟩)), .c (.agg (nw 9 y)), .c (.bool true), .c (.bool true), .c (.bool true), .c (.agg (cu id P A B N X Y s z l)), .c (.pointer (some ⟨w.heap.size + 1, 9, none⟩)), .c (.agg (nw 9 y)), .c (.agg (nw 9 L)), .c (.agg (cu id P A B N X Y s z l)), .c (.pointer (some ⟨w.heap.size + 1, 0, none⟩)), .c (.agg (nw 9 x)), .c (.agg (nw 9 R)), .c (.bool (eqN 9 L R)), .c (.bool (eqN 9 L R)), .c (.bool (eqN 9 L R))] ?hs ?hf
    case hs =>
      intro listed vals a1 v io oo hg hR hF ho hd
      have H2 : blk v (w.heap.size) = cu id P A B N X Y s z l := (hg.blk _ c2.p).trans c2.h
      have H3 : blk v (w.heap.size + 1) = pnt x y false := (hg.blk _ c3.p).trans c3.h
      have hi : io < 22 := by simpa using (Array.getElem?_eq_some_iff.1 ho).1
      obtain rfl | rfl | rfl | rfl | rfl | rfl | rfl | rfl | rfl | rfl | rfl | rfl | rfl | rfl | rfl | rfl | rfl | rfl | rfl | rfl | rfl | rfl : io = 0 ∨ io = 1 ∨ io = 2 ∨ io = 3 ∨ io = 4 ∨ io = 5 ∨ io = 6 ∨ io = 7 ∨ io = 8 ∨ io = 9 ∨ io = 10 ∨ io = 11 ∨ io = 12 ∨ io = 13 ∨ io = 14 ∨ io = 15 ∨ io = 16 ∨ io = 17 ∨ io = 18 ∨ io = 19 ∨ io = 20 ∨ io = 21 := by omega
      · obtain rfl := Option.some.inj ho
        have f0 := hF.old (s := 2) (v := .pointer (some ⟨w.heap.size, 0, none⟩)) (by kernel_rfl) rfl
        refine Or.inl ⟨wanted_no rfl, ?_⟩
        exact wp_val (.agg (cu id P A B N X Y s z l)) (by simp [go_sem, f0, H2]) ⟨_, rfl, Gr.refl _, rfl⟩
      · obtain rfl := Option.some.inj ho
        have f0 := hF.old (s := 3) (v := .pointer (some ⟨w.heap.size + 1, 0, none⟩)) (by kernel_rfl) rfl
        refine Or.inl ⟨wanted_no rfl, ?_⟩
        exact wp_val (.pointer (some ⟨w.heap.size + 1, 0, none⟩)) (by simp [go_sem, f0]) ⟨_, rfl, Gr.refl _, rfl⟩
      · obtain rfl := Option.some.inj ho
        have l0 := on_of hd 1 (by kernel_rfl)
        have f0 := hF.at (s := 11) (i := 1) (by kernel_rfl) (by simp) l0
        have e0 : vals 1 = .pointer (some ⟨w.heap.size + 1, 0, none⟩) := hR 1 l0
        rw [e0] at f0
        refine Or.inl ⟨wanted_no rfl, ?_⟩
        exact wp_val (.agg (nw 9 x)) (by simp [go_sem, f0, H3]) ⟨_, rfl, Gr.refl _, rfl⟩
      · obtain rfl := Option.some.inj ho
        have l0 := on_of hd 0 (by kernel_rfl)
        have f0 := hF.at (s := 10) (i := 0) (by kernel_rfl) (by simp) l0
        have e0 : vals 0 = .agg (cu id P A B N X Y s z l) := hR 0 l0
        rw [e0] at f0
        have l1 := on_of hd 2 (by kernel_rfl)
        have f1 := hF.at (s := 12) (i := 2) (by kernel_rfl) (by simp) l1
        have e1 : vals 2 = .agg (nw 9 x) := hR 2 l1
        rw [e1] at f1
        refine Or.inl ⟨wanted_no rfl, ?_⟩
        exact wp_retz (k := .c (.bool true)) (by simp [go_sem, f0, f1]) (Rt.c (HBx.out v)) (fun u w2 hu hg2 => ⟨_, rfl, hg2, hu⟩)
      · obtain rfl := Option.some.inj ho
        have l0 := on_of hd 3 (by kernel_rfl)
        have f0 := hF.at (s := 13) (i := 3) (by kernel_rfl) (by simp) l0
        have e0 : vals 3 = .bool true := hR 3 l0
        rw [e0] at f0
        refine Or.inl ⟨wanted_no rfl, ?_⟩
        exact wp_val (.bool true) (by simp [go_sem, f0]) ⟨_, rfl, Gr.refl _, rfl⟩
      · obtain rfl := Option.some.inj ho
        have lg := on_of hd 4 (by kernel_rfl)
        have fg := hF.at (s := 14) (i := 4) (by kernel_rfl) (by simp) lg
        rw [show vals 4 = .bool true from hR 4 lg] at fg
        have f0 := hF.old (s := 2) (v := .pointer (some ⟨w.heap.size, 0, none⟩)) (by kernel_rfl) rfl
        refine Or.inl ⟨wanted_at (j := 4) (s := 14) rfl rfl rfl fg, ?_⟩
        exact wp_val (.agg (cu id P A B N X Y s z l)) (by simp [go_sem, f0, H2]) ⟨_, rfl, Gr.refl _, rfl⟩
      · obtain rfl := Option.some.inj ho
        have lg := on_of hd 4 (by kernel_rfl)
        have fg := hF.at (s := 14) (i := 4) (by kernel_rfl) (by simp) lg
        rw [show vals 4 = .bool true from hR 4 lg] at fg
        have f0 := hF.old (s := 3) (v := .pointer (some ⟨w.heap.size + 1, 0, none⟩)) (by kernel_rfl) rfl
        refine Or.inl ⟨wanted_at (j := 4) (s := 14) rfl rfl rfl fg, ?_⟩
        exact wp_val (.pointer (some ⟨w.heap.size + 1, 9, none⟩)) (by simp [go_sem, f0]) ⟨_, rfl, Gr.refl _, rfl⟩
      · obtain rfl := Option.some.inj ho
        have lg := on_of hd 4 (by kernel_rfl)
        have fg := hF.at (s := 14) (i := 4) (by kernel_rfl) (by simp) lg
        rw [show vals 4 = .bool true from hR 4 lg] at fg
        have l0 := on_of hd 6 (by kernel_rfl)
        have f0 := hF.at (s := 16) (i := 6) (by kernel_rfl) (by simp) l0
        have e0 : vals 6 = .pointer (some ⟨w.heap.size + 1, 9, none⟩) := hR 6 l0
        rw [e0] at f0
        refine Or.inl ⟨wanted_at (j := 4) (s := 14) rfl rfl rfl fg, ?_⟩
        exact wp_val (.agg (nw 9 y)) (by simp [go_sem, f0, H3]) ⟨_, rfl, Gr.refl _, rfl⟩
      · obtain rfl := Option.some.inj ho
        have lg := on_of hd 4 (by kernel_rfl)
        have fg := hF.at (s := 14) (i := 4) (by kernel_rfl) (by simp) lg
        rw [show vals 4 = .bool true from hR 4 lg] at fg
        have l0 := on_of hd 5 (by kernel_rfl)
        have f0 := hF.at (s := 15) (i := 5) (by kernel_rfl) (by simp) l0
        have e0 : vals 5 = .agg (cu id P A B N X Y s z l) := hR 5 l0
        rw [e0] at f0
        have l1 := on_of hd 7 (by kernel_rfl)
        have f1 := hF.at (s := 17) (i := 7) (by kernel_rfl) (by simp) l1
        have e1 : vals 7 = .agg (nw 9 y) := hR 7 l1
        rw [e1] at f1
        refine Or.inl ⟨wanted_at (j := 4) (s := 14) rfl rfl rfl fg, ?_⟩
        exact wp_retz (k := .c (.bool true)) (by simp [go_sem, f0, f1]) (Rt.c (HBy.out v)) (fun u w2 hu hg2 => ⟨_, rfl, hg2, hu⟩)
      · obtain rfl := Option.some.inj ho
        have l0 := on_of hd 4 (by kernel_rfl)
        have f0 := hF.at (s := 14) (i := 4) (by kernel_rfl) (by simp) l0
        have e0 : vals 4 = .bool true := hR 4 l0
        rw [e0] at f0
        have l1 := on_of hd 8 (by kernel_rfl)
        have f1 := hF.at (s := 18) (i := 8) (by kernel_rfl) (by simp) l1
        have e1 : vals 8 = .bool true := hR 8 l1
        rw [e1] at f1
        refine Or.inl ⟨wanted_no rfl, ?_⟩
        exact wp_val (.bool true) (by simp [go_sem, f0, f1]) ⟨_, rfl, Gr.refl _, rfl⟩
      · obtain rfl := Option.some.inj ho
        have l0 := on_of hd 9 (by kernel_rfl)
        have f0 := hF.at (s := 19) (i := 9) (by kernel_rfl) (by simp) l0
        have e0 : vals 9 = .bool true := hR 9 l0
        rw [e0] at f0
        refine Or.inl ⟨wanted_no rfl, ?_⟩
        exact wp_val (.bool true) (by simp [go_sem, f0]) ⟨_, rfl, Gr.refl _, rfl⟩
      · obtain rfl := Option.some.inj ho
        have lg := on_of hd 10 (by kernel_rfl)
        have fg := hF.at (s := 20) (i := 10) (by kernel_rfl) (by simp) lg
        rw [show vals 10 = .bool true from hR 10 lg] at fg
        have f0 := hF.old (s := 2) (v := .pointer (some ⟨w.heap.size, 0, none⟩)) (by kernel_rfl) rfl
        refine Or.inl ⟨wanted_at (j := 10) (s := 20) rfl rfl rfl fg, ?_⟩
        exact wp_val (.agg (cu id P A B N X Y s z l)) (by simp [go_sem, f0, H2]) ⟨_, rfl, Gr.refl _, rfl⟩
      · obtain rfl := Option.some.inj ho
        have lg := on_of hd 10 (by kernel_rfl)
        have fg := hF.at (s := 20) (i := 10) (by kernel_rfl) (by simp) lg
        rw [show vals 10 = .bool true from hR 10 lg] at fg
        have f0 := hF.old (s := 3) (v := .pointer (some ⟨w.heap.size + 1, 0, none⟩)) (by kernel_rfl) rfl
        refine Or.inl ⟨wanted_at (j := 10) (s := 20) rfl rfl rfl fg, ?_⟩
        exact wp_val (.pointer (some ⟨w.heap.size + 1, 9, none⟩)) (by simp [go_sem, f0]) ⟨_, rfl, Gr.refl _, rfl⟩
      · obtain rfl := Option.some.inj ho
        have lg := on_of hd 10 (by kernel_rfl)
        have fg := hF.at (s := 20) (i := 10) (by kernel_rfl) (by simp) lg
        rw [show vals 10 = .bool true from hR 10 lg] at fg
        have l0 := on_of hd 12 (by kernel_rfl)
        have f0 := hF.at (s := 22) (i := 12) (by kernel_rfl) (by simp) l0
        have e0 : vals 12 = .pointer (some ⟨w.heap.size + 1, 9, none⟩) := hR 12 l0
        rw [e0] at f0
        refine Or.inl ⟨wanted_at (j := 10) (s := 20) rfl rfl rfl fg, ?_⟩
        exact wp_val (.agg (nw 9 y)) (by simp [go_sem, f0, H3]) ⟨_, rfl, Gr.refl _, rfl⟩
      · obtain rfl := Option.some.inj ho
        have lg := on_of hd 10 (by kernel_rfl)
        have fg := hF.at (s := 20) (i := 10) (by kernel_rfl) (by simp) lg
        rw [show vals 10 = .bool true from hR 10 lg] at fg
        have l0 := on_of hd 11 (by kernel_rfl)
        have f0 := hF.at (s := 21) (i := 11) (by kernel_rfl) (by simp) l0
        have e0 : vals 11 = .agg (cu id P A B N X Y s z l) := hR 11 l0
        rw [e0] at f0
        have l1 := on_of hd 13 (by kernel_rfl)
        have f1 := hF.at (s := 23) (i := 13) (by kernel_rfl) (by simp) l1
        have e1 : vals 13 = .agg (nw 9 y) := hR 13 l1
        rw [e1] at f1
        refine Or.inl ⟨wanted_at (j := 10) (s := 20) rfl rfl rfl fg, ?_⟩
        exact wp_retz (k := .c (.agg (nw 9 L))) (by simp [go_sem, f0, f1]) (Rt.c (HL.out v)) (fun u w2 hu hg2 => ⟨_, rfl, hg2, hu⟩)
      · obtain rfl := Option.some.inj ho
        have lg := on_of hd 10 (by kernel_rfl)
        have fg := hF.at (s := 20) (i := 10) (by kernel_rfl) (by simp) lg
        rw [show vals 10 = .bool true from hR 10 lg] at fg
        have f0 := hF.old (s := 2) (v := .pointer (some ⟨w.heap.size, 0, none⟩)) (by kernel_rfl) rfl
        refine Or.inl ⟨wanted_at (j := 10) (s := 20) rfl rfl rfl fg, ?_⟩
        exact wp_val (.agg (cu id P A B N X Y s z l)) (by simp [go_sem, f0, H2]) ⟨_, rfl, Gr.refl _, rfl⟩
      · obtain rfl := Option.some.inj ho
        have lg := on_of hd 10 (by kernel_rfl)
        have fg := hF.at (s := 20) (i := 10) (by kernel_rfl) (by simp) lg
        rw [show vals 10 = .bool true from hR 10 lg] at fg
        have f0 := hF.old (s := 3) (v := .pointer (some ⟨w.heap.size + 1, 0, none⟩)) (by kernel_rfl) rfl
        refine Or.inl ⟨wanted_at (j := 10) (s := 20) rfl rfl rfl fg, ?_⟩
        exact wp_val (.pointer (some ⟨w.heap.size + 1, 0, none⟩)) (by simp [go_sem, f0]) ⟨_, rfl, Gr.refl _, rfl⟩
      · obtain rfl := Option.some.inj ho
        have lg := on_of hd 10 (by kernel_rfl)
        have fg := hF.at (s := 20) (i := 10) (by kernel_rfl) (by simp) lg
        rw [show vals 10 = .bool true from hR 10 lg] at fg
        have l0 := on_of hd 16 (by kernel_rfl)
        have f0 := hF.at (s := 26) (i := 16) (by kernel_rfl) (by simp) l0
        have e0 : vals 16 = .pointer (some ⟨w.heap.size + 1, 0, none⟩) := hR 16 l0
        rw [e0] at f0
        refine Or.inl ⟨wanted_at (j := 10) (s := 20) rfl rfl rfl fg, ?_⟩
        exact wp_val (.agg (nw 9 x)) (by simp [go_sem, f0, H3]) ⟨_, rfl, Gr.refl _, rfl⟩
      · obtain rfl := Option.some.inj ho
        have lg := on_of hd 10 (by kernel_rfl)
        have fg := hF.at (s := 20) (i := 10) (by kernel_rfl) (by simp) lg
        rw [show vals 10 = .bool true from hR 10 lg] at fg
        have l0 := on_of hd 15 (by kernel_rfl)
        have f0 := hF.at (s := 25) (i := 15) (by kernel_rfl) (by simp) l0
        have e0 : vals 15 = .agg (cu id P A B N X Y s z l) := hR 15 l0
        rw [e0] at f0
        have l1 := on_of hd 17 (by kernel_rfl)
        have f1 := hF.at (s := 27) (i := 17) (by kernel_rfl) (by simp) l1
        have e1 : vals 17 = .agg (nw 9 x) := hR 17 l1
        rw [e1] at f1
        refine Or.inl ⟨wanted_at (j := 10) (s := 20) rfl rfl rfl fg, ?_⟩
        exact wp_retz (k := .c (.agg (nw 9 R))) (by simp [go_sem, f0, f1]) (Rt.c (HR.out v)) (fun u w2 hu hg2 => ⟨_, rfl, hg2, hu⟩)
      · obtain rfl := Option.some.inj ho
        have lg := on_of hd 10 (by kernel_rfl)
        have fg := hF.at (s := 20) (i := 10) (by kernel_rfl) (by simp) lg
        rw [show vals 10 = .bool true from hR 10 lg] at fg
        have l0 := on_of hd 14 (by kernel_rfl)
        have f0 := hF.at (s := 24) (i := 14) (by kernel_rfl) (by simp) l0
        have e0 : vals 14 = .agg (nw 9 L) := hR 14 l0
        rw [e0] at f0
        have l1 := on_of hd 18 (by kernel_rfl)
        have f1 := hF.at (s := 28) (i := 18) (by kernel_rfl) (by simp) l1
        have e1 : vals 18 = .agg (nw 9 R) := hR 18 l1
        rw [e1] at f1
        refine Or.inl ⟨wanted_at (j := 10) (s := 20) rfl rfl rfl fg, ?_⟩
        exact wp_val (.bool (eqN 9 L R)) (by simp [go_sem, f0, f1, eqNat]) ⟨_, rfl, Gr.refl _, rfl⟩
      · obtain rfl := Option.some.inj ho
        have l0 := on_of hd 10 (by kernel_rfl)
        have f0 := hF.at (s := 20) (i := 10) (by kernel_rfl) (by simp) l0
        have e0 : vals 10 = .bool true := hR 10 l0
        rw [e0] at f0
        have l1 := on_of hd 19 (by kernel_rfl)
        have f1 := hF.at (s := 29) (i := 19) (by kernel_rfl) (by simp) l1
        have e1 : vals 19 = .bool (eqN 9 L R) := hR 19 l1
        rw [e1] at f1
        refine Or.inl ⟨wanted_no rfl, ?_⟩
        exact wp_val (.bool (eqN 9 L R)) (by simp [go_sem, f0, f1]) ⟨_, rfl, Gr.refl _, rfl⟩
      · obtain rfl := Option.some.inj ho
        have l0 := on_of hd 20 (by kernel_rfl)
        have f0 := hF.at (s := 30) (i := 20) (by kernel_rfl) (by simp) l0
        have e0 : vals 20 = .bool (eqN 9 L R) := hR 20 l0
        rw [e0] at f0
        refine Or.inl ⟨wanted_no rfl, ?_⟩
        exact wp_val (.bool (eqN 9 L R)) (by simp [go_sem, f0]) ⟨_, rfl, Gr.refl _, rfl⟩
    case hf =>
      intro vals v hg hR
      have H2 : blk v (w.heap.size) = cu id P A B N X Y s z l := (hg.blk _ c2.p).trans c2.h
      have H3 : blk v (w.heap.size + 1) = pnt x y false := (hg.blk _ c3.p).trans c3.h
      have e100 : vals 0 = .agg (cu id P A B N X Y s z l) := hR 0 (by simp)
      have e101 : vals 1 = .pointer (some ⟨w.heap.size + 1, 0, none⟩) := hR 1 (by simp)
      have e102 : vals 2 = .agg (nw 9 x) := hR 2 (by simp)
      have e103 : vals 3 = .bool true := hR 3 (by simp)
      have e104 : vals 4 = .bool true := hR 4 (by simp)
      have e105 : vals 5 = .agg (cu id P A B N X Y s z l) := hR 5 (by simp)
      have e106 : vals 6 = .pointer (some ⟨w.heap.size + 1, 9, none⟩) := hR 6 (by simp)
      have e107 : vals 7 = .agg (nw 9 y) := hR 7 (by simp)
      have e108 : vals 8 = .bool true := hR 8 (by simp)
      have e109 : vals 9 = .bool true := hR 9 (by simp)
      have e110 : vals 10 = .bool true := hR 10 (by simp)
      have e111 : vals 11 = .agg (cu id P A B N X Y s z l) := hR 11 (by simp)
      have e112 : vals 12 = .pointer (some ⟨w.heap.size + 1, 9, none⟩) := hR 12 (by simp)
      have e113 : vals 13 = .agg (nw 9 y) := hR 13 (by simp)
      have e114 : vals 14 = .agg (nw 9 L) := hR 14 (by simp)
      have e115 : vals 15 = .agg (cu id P A B N X Y s z l) := hR 15 (by simp)
      have e116 : vals 16 = .pointer (some ⟨w.heap.size + 1, 0, none⟩) := hR 16 (by simp)
      have e117 : vals 17 = .agg (nw 9 x) := hR 17 (by simp)
      have e118 : vals 18 = .agg (nw 9 R) := hR 18 (by simp)
      have e119 : vals 19 = .bool (eqN 9 L R) := hR 19 (by simp)
      have e120 : vals 20 = .bool (eqN 9 L R) := hR 20 (by simp)
      have e121 : vals 21 = .bool (eqN 9 L R) := hR 21 (by simp)
      simp only [putFrom, Act.put, List.setIfInBounds_toArray, List.set_cons_zero, List.set_cons_succ, e100, e101, e102, e103, e104, e105, e106, e107, e108, e109, e110, e111, e112, e113, e114, e115, e116, e117, e118, e119, e120, e121]
      clear hR e100 e101 e102 e103 e104 e105 e106 e107 e108 e109 e110 e111 e112 e113 e114 e115 e116 e117 e118 e119 e120 e121
      have HG : Gr w v := G.trans hg
      clear hg
      go_wp2_with fail
      go_ret
      exact ⟨rfl, HG⟩

end Go.Proofs.Ytgmaalokfgdpaaa
namespace Go.Proofs.Ytgmaalokfgdpaaa
open Go.RowKit
attribute [local go_sem ↓] loadNat_is loadArr_is loadWide_is loadArrW_is storeNat_is storeWide_is
attribute [local go_sem] loadNat loadArr loadWide loadArrW storeNat storeWide idxArr fold9 fold18 nw_size nw_elem pre_self pre_1 pre_2 pre_3 pre_4 pre_5 pre_6 pre_7 pre_8 pre_9 pre_10 pre_11 pre_12 pre_13 pre_14 pre_15 pre_16 pre_17 pre_18 pre_19 pre_20 pre_21 pre_22 pre_23 pre_24 pre_25 pre_26 pre_27 pre_28 pre_29 pre_30 pre_31 pre_32 pre_33 pre_34 pre_35 pre_36 pre_37 pre_38 pre_39 pre_40 gro_size gro_drew gro_drewN drew_gro drewN_gro gro_gro blk_gro frz_gro blk_drew frz_drew blk_drewN frz_drewN blk_alloc_at frz_alloc_at blk_alloc frz_alloc cell_gro frozen_gro cell_alloc_pre frozen_alloc_pre setCell_drewN alloc_drewN setBlk_drew setBlk_drewN setBlk_alloc_at setBlk_alloc setBlk_gro setCell_gro setCell_alloc_pre size_setBlk size_setCell
attribute [local go_sem] ppre_1 ppre_2 ppre_3 ppre_4 ppre_5 ppre_6
attribute [local go_sem ↓] zvCu_is zvEq_is storeCu_is storeEq_is loadCu_is loadEq_is loadPn_is buildCu_is buildEq_is buildPn_is Go.wp_at_zero Go.wp_at_succ
attribute [local go_sem] zvCu zvEq storeCu storeEq loadCu loadEq loadPn cu_size pnt_size frz_setBlk blk_setBlk setBlk_setBlk blk_other
set_option maxRecDepth 100000 in
set_option maxHeartbeats 400000 in
theorem on13_of (k id : Int) (P A B N X Y : Nat) (s z : Int) (l : Bool) (x y : Nat) (f r : Bool)
    (HF' : ∀ w, Calls Try.prog 35 #[.int .i64 k] w fun e w' => e = .returned (.tuple #[.agg (cu id P A B N X Y s z l), .bool true]) ∧ Gr w w')
    (HH' : ∀ w, Calls Try.prog 41 #[.agg (cu id P A B N X Y s z l), .agg (pnt x y f)] w fun e w' => e = .returned (.bool r) ∧ Gr w w') (w : World) :
    Calls Try.prog 16 #[.int .i64 k, .agg (pnt x y f)] w fun e w' => e = .returned (.bool r) ∧ Gr w w' := by
  have HF : Hid (∀ w, Calls Try.prog 35 #[.int .i64 k] w fun e w' => e = .returned (.tuple #[.agg (cu id P A B N X Y s z l), .bool true]) ∧ Gr w w') := HF'
  have HH : Hid (∀ w, Calls Try.prog 41 #[.agg (cu id P A B N X Y s z l), .agg (pnt x y f)] w fun e w' => e = .returned (.bool r) ∧ Gr w w') := HH'
  clear HF' HH'
  go_enter Try.func16, Try.ntmps16
  go_wp2_with (first
    | (go_at_call 35; refine (HF.out _).mono ?_; rintro e w' ⟨rfl, g, rfl⟩)
    | (go_at_call 41; refine (HH.out _).mono ?_; rintro e w' ⟨rfl, g2, rfl⟩))
  go_ret
  exact ⟨rfl, (by repeat (first | exact Gr.refl _ | apply Gr.drewN | apply Gr.drew | apply Gr.alloc | apply Gr.gro))⟩
/-- X X X + A X + B modulo P. -/
def rhN (i x : Nat) : Nat := ((x * x % pN i + aN i) % pN i * x % pN i + bN i) % pN i
/-- Is the point on curve i? -/
def onB (i x y : Nat) (f : Bool) : Bool := if f then decide (x = 0) && decide (y = 0) else decide (x < pN i) && (decide (y < pN i) && decide (y * y % pN i = rhN i x))
theorem aN_lt (i : Nat) (h1 : 1 ≤ i) (h2 : i ≤ 15) : aN i < pN i := by
  obtain rfl | rfl | rfl | rfl | rfl | rfl | rfl | rfl | rfl | rfl | rfl | rfl | rfl | rfl | rfl : i = 1 ∨ i = 2 ∨ i = 3 ∨ i = 4 ∨ i = 5 ∨ i = 6 ∨ i = 7 ∨ i = 8 ∨ i = 9 ∨ i = 10 ∨ i = 11 ∨ i = 12 ∨ i = 13 ∨ i = 14 ∨ i = 15 := by omega
  all_goals decide +kernel
theorem bN_lt (i : Nat) (h1 : 1 ≤ i) (h2 : i ≤ 15) : bN i < pN i := by
  obtain rfl | rfl | rfl | rfl | rfl | rfl | rfl | rfl | rfl | rfl | rfl | rfl | rfl | rfl | rfl : i = 1 ∨ i = 2 ∨ i = 3 ∨ i = 4 ∨ i = 5 ∨ i = 6 ∨ i = 7 ∨ i = 8 ∨ i = 9 ∨ i = 10 ∨ i = 11 ∨ i = 12 ∨ i = 13 ∨ i = 14 ∨ i = 15 := by omega
  all_goals decide +kernel
theorem xN_lt (i : Nat) (h1 : 1 ≤ i) (h2 : i ≤ 15) : xN i < pN i := by
  obtain rfl | rfl | rfl | rfl | rfl | rfl | rfl | rfl | rfl | rfl | rfl | rfl | rfl | rfl | rfl : i = 1 ∨ i = 2 ∨ i = 3 ∨ i = 4 ∨ i = 5 ∨ i = 6 ∨ i = 7 ∨ i = 8 ∨ i = 9 ∨ i = 10 ∨ i = 11 ∨ i = 12 ∨ i = 13 ∨ i = 14 ∨ i = 15 := by omega
  all_goals decide +kernel
theorem yN_lt (i : Nat) (h1 : 1 ≤ i) (h2 : i ≤ 15) : yN i < pN i ∧ 0 < yN i := by
  obtain rfl | rfl | rfl | rfl | rfl | rfl | rfl | rfl | rfl | rfl | rfl | rfl | rfl | rfl | rfl : i = 1 ∨ i = 2 ∨ i = 3 ∨ i = 4 ∨ i = 5 ∨ i = 6 ∨ i = 7 ∨ i = 8 ∨ i = 9 ∨ i = 10 ∨ i = 11 ∨ i = 12 ∨ i = 13 ∨ i = 14 ∨ i = 15 := by omega
  all_goals decide +kernel
/-- The base point is on its curve. -/
theorem gN_on (i : Nat) (h1 : 1 ≤ i) (h2 : i ≤ 15) : onB i (xN i) (yN i) false = true := by
  obtain rfl | rfl | rfl | rfl | rfl | rfl | rfl | rfl | rfl | rfl | rfl | rfl | rfl | rfl | rfl : i = 1 ∨ i = 2 ∨ i = 3 ∨ i = 4 ∨ i = 5 ∨ i = 6 ∨ i = 7 ∨ i = 8 ∨ i = 9 ∨ i = 10 ∨ i = 11 ∨ i = 12 ∨ i = 13 ∨ i = 14 ∨ i = 15 := by omega
  all_goals decide +kernel
/-- What On answers of a curve and any point. -/
theorem on13_yes (i : Nat) (h1 : 1 ≤ i) (h2 : i ≤ 15) (x y : Nat) (f : Bool) (hx : x < M) (hy : y < M) (w : World) :
    Calls Try.prog 16 #[.int .i64 (i : Int), .agg (pnt x y f)] w fun e w' => e = .returned (.bool (onB i x y f)) ∧ Gr w w' := by
  have hB := pN_bd i h1 h2
  refine on13_of i _ _ _ _ _ _ _ _ _ _ x y f _ (find_yes i h1 h2) (fun w => ?_) w
  cases f with
  | true =>
    have := holds_inf (i : Int) (pN i) (aN i) (bN i) (oN i) (xN i) (yN i) (bl (oN i)) (szN i) (lgN i) x y w
    rw [eqN9 x 0 hx (by omega), eqN9 y 0 hy (by omega), Bool.and_true] at this
    exact this
  | false =>
    have hr : ∀ z, rhN i z < M := fun z => by have : rhN i z < pN i := Nat.mod_lt _ (by omega); omega
    have hl : y * y % pN i < M := by have : y * y % pN i < pN i := Nat.mod_lt _ (by omega); omega
    have := holds_of (i : Int) (pN i) (aN i) (bN i) (oN i) (xN i) (yN i) (bl (oN i)) (szN i) (lgN i) x y (y * y % pN i) (rhN i x) (decide (x < pN i)) (decide (y < pN i))
      (fun w => below13_any _ _ _ _ _ _ _ _ _ _ x _ (by omega) hx rfl w) (fun w => below13_any _ _ _ _ _ _ _ _ _ _ y _ (by omega) hy rfl w)
      (fun _ h w => left13_of _ _ _ _ _ _ _ _ _ _ y _ (fun w => fMul_ok i y y h1 h2 (of_decide_eq_true h) (of_decide_eq_true h) w) w)
      (fun h _ w => right13_of _ _ _ _ _ _ _ _ _ _ x _ _ _ _ (fun w => fMul_ok i x x h1 h2 (of_decide_eq_true h) (of_decide_eq_true h) w)
        (fun w => fAdd_ok i _ _ h1 h2 (Nat.mod_lt _ (by omega)) (aN_lt i h1 h2) w) (fun w => fMul_ok i _ _ h1 h2 (Nat.mod_lt _ (by omega)) (of_decide_eq_true h) w)
        (fun w => fAdd_ok i _ _ h1 h2 (Nat.mod_lt _ (by omega)) (bN_lt i h1 h2) w) w) w
    rw [eqN9 _ _ hl (hr x)] at this
    exact this

end Go.Proofs.Ytgmaalokfgdpaaa
namespace Go.Proofs.Ytgmaalokfgdpaaa
open Go.RowKit
theorem RZ.start0 (W : World) (kp : List Kz) (n : Nat) (vals : Nat → Value) : RZ W kp (upTo n 0) vals W := ⟨Gr.refl W, fun j hj => by rw [upTo_getD] at hj; simp at hj⟩
theorem wpList_q {P : Program} {l : List Oper} {Q : Exit → Act → World → Prop} {a0 : Act} {W : World} (hu : uniqG l.toArray = true) (kp : List Kz) (n : Nat) (hn : n ≤ l.length)
    (hstep : ∀ (listed : Array Bool) (vals : Nat → Value) (a : Act) (v : World) (i : Nat) (o : Oper), Gr W v → (∀ j, listed.getD j false = true → kz kp j (vals j) v) → Frm l.toArray a0 vals listed a → l.toArray[i]? = some o → i < n →
      (∀ e ∈ o.after, Region.binds .any e = true → listed.getD e.on false = true) →
      (Region.wanted o (yielded l.toArray a.tmps) = true ∧ o.wp P a v (fun a' w' => ∃ u, a' = a.put o.dst u ∧ Gr v w' ∧ kz kp i u w') Q) ∨ (Region.wanted o (yielded l.toArray a.tmps) = false ∧ kz kp i undef v))
    (hfin : ∀ (vals : Nat → Value) (a : Act) (v : World), Gr W v → (∀ j, j < n → kz kp j (vals j) v) → Frm l.toArray a0 vals (upTo l.length n) a → wpList P l.toArray Q (l.drop n) a v) :
    ∀ (d k : Nat) (vals : Nat → Value) (a : Act) (w : World), k + d = n → RZ W kp (upTo l.length k) vals w → Frm l.toArray a0 vals (upTo l.length k) a → wpList P l.toArray Q (l.drop k) a w
  | 0, k, vals, a, w, hk, hR, hF => by
    obtain rfl : k = n := by omega
    exact hfin vals a w hR.1 (fun j hj => hR.2 j (by rw [upTo_getD]; simp; omega)) hF
  | d + 1, k, vals, a, w, hk, hR, hF => by
    have hkl : k < l.length := by omega
    rw [List.drop_eq_getElem_cons hkl, wpList]
    have ho : l.toArray[k]? = some l[k] := by simp [hkl]
    obtain ⟨-, hx⟩ := uniq_at hu ho
    have next : ∀ v w', Gr w w' → kz kp k v w' → wpList P l.toArray Q (l.drop (k + 1)) (a.put l[k].dst v) w' := fun v w' hg hv => by
      have h1 := hR.next (i := k) hg hv
      have h2 := hF.put hu ho (by simp [upTo]) v
      rw [upTo_set _ _ hkl] at h1 h2
      exact wpList_q hu kp n hn hstep hfin d (k + 1) _ _ _ (by omega) h1 h2
    obtain ⟨h1, h2⟩ | ⟨h1, h2⟩ := hstep (upTo l.length k) vals a w k _ hR.1 hR.2 hF ho (by omega) (fun e he hb => by rw [upTo_getD]; have := hx e he hb; simp; omega)
    · rw [if_pos h1]
      refine Or.inl (Oper.wp_mono (fun a' w' h => ?_) h2)
      obtain ⟨v, rfl, hg, hv⟩ := h
      exact next v w' hg hv
    · rw [if_neg (by rw [h1]; decide)]
      exact next undef w (Gr.refl _) h2
theorem wp_region_qS {P : Program} {id : Nat} {l : List Oper} {Q : Exit → Act → World → Prop} {a0 : Act} {W : World} (hu : uniqG l.toArray = true) (kp : List Kz)
    (hstep : ∀ (listed : Array Bool) (vals : Nat → Value) (a : Act) (v : World) (i : Nat) (o : Oper), Gr W v → (∀ j, listed.getD j false = true → kz kp j (vals j) v) → Frm l.toArray a0 vals listed a → l.toArray[i]? = some o →
      (∀ e ∈ o.after, Region.binds .any e = true → listed.getD e.on false = true) →
      (Region.wanted o (yielded l.toArray a.tmps) = true ∧ o.wp P a v (fun a' w' => ∃ u, a' = a.put o.dst u ∧ Gr v w' ∧ kz kp i u w') Q) ∨ (Region.wanted o (yielded l.toArray a.tmps) = false ∧ kz kp i undef v))
    (hfin : ∀ (vals : Nat → Value) (v : World), Gr W v → (∀ j, j < l.toArray.size → kz kp j (vals j) v) → Q .normal (putFrom vals 0 l a0) v) :
    (Code.region id l.toArray false).wp P Q a0 W := by
  refine wp_region_lit (wpList_q hu kp l.length (Nat.le_refl _) (fun listed vals a v i o h1 h2 h3 h4 _ h6 => hstep listed vals a v i o h1 h2 h3 h4 h6) (fun vals a v hg hk hF => ?_) l.length 0 (fun _ => undef) a0 W (by omega) (RZ.start0 _ _ _ _) (Frm.start_up l a0 _))
  rw [List.drop_length, wpList, hF.final hu (fun i hi => by rw [upTo_getD]; simp at hi ⊢; exact hi)]
  exact hfin vals v hg (fun j hj => hk j (by simpa using hj))
theorem wp_region_qTS {P : Program} {id : Nat} {l : List Oper} {Q : Exit → Act → World → Prop} {a0 : Act} {W : World} (hu : uniqG l.toArray = true) (n : Nat) (hs : (decide (l.length = n + 1) && (((l[n]?).map fun o => o.dst.isNone && o.guard.isNone).getD false)) = true) (kp : List Kz)
    (hstep : ∀ (listed : Array Bool) (vals : Nat → Value) (a : Act) (v : World) (i : Nat) (o : Oper), Gr W v → (∀ j, listed.getD j false = true → kz kp j (vals j) v) → Frm l.toArray a0 vals listed a → l.toArray[i]? = some o → i < n →
      (∀ e ∈ o.after, Region.binds .any e = true → listed.getD e.on false = true) →
      (Region.wanted o (yielded l.toArray a.tmps) = true ∧ o.wp P a v (fun a' w' => ∃ u, a' = a.put o.dst u ∧ Gr v w' ∧ kz kp i u w') Q) ∨ (Region.wanted o (yielded l.toArray a.tmps) = false ∧ kz kp i undef v))
    (hlast : ∀ (listed : Array Bool) (vals : Nat → Value) (a : Act) (v : World) (o : Oper), Gr W v → (∀ j, j < n → kz kp j (vals j) v) → Frm l.toArray a0 vals listed a → (∀ j, j < n → listed.getD j false = true) → l.toArray[n]? = some o →
      o.wp P a v (fun a' w' => a' = a.put o.dst undef ∧ Q .normal (putFrom vals 0 l a0) w') Q) :
    (Code.region id l.toArray false).wp P Q a0 W := by
  simp only [Bool.and_eq_true, decide_eq_true_eq] at hs
  obtain ⟨hlen, hlo⟩ := hs
  have hnl : n < l.length := by omega
  have ho : l[n]? = some l[n] := List.getElem?_eq_getElem hnl
  have ho' : l.toArray[n]? = some l[n] := by simp [hnl]
  have hg : l[n].dst = none ∧ l[n].guard = none := by rw [ho] at hlo; simpa using hlo
  refine wp_region_lit (wpList_q hu kp n (by omega) hstep (fun vals a v hG hk hF => ?_) n 0 (fun _ => undef) a0 W (by omega) (RZ.start0 _ _ _ _) (Frm.start_up l a0 _))
  rw [List.drop_eq_getElem_cons hnl, show l.drop (n + 1) = [] from List.drop_eq_nil_of_le (by omega), wpList, if_pos (wanted_no hg.2)]
  refine Or.inl (Oper.wp_mono (fun a' w' h => ?_) (hlast _ vals a v _ hG hk hF (fun j hj => by rw [upTo_getD]; simp; omega) ho'))
  obtain ⟨rfl, hq⟩ := h
  rw [wpList]
  have h2 := hF.put hu ho' (by simp [upTo]) undef
  rw [upTo_set _ _ hnl] at h2
  rw [h2.final hu (fun i hi => by rw [upTo_getD]; simp at hi ⊢; omega), putFrom_congr (vals' := vals) l 0 a0 (fun j o hj hd => ?_)]
  · exact hq
  · rw [Nat.zero_add]
    unfold upd
    by_cases e : j = n
    · subst e
      rw [ho] at hj; cases hj
      rw [hg.1] at hd; cases hd
    · rw [if_neg e]

end Go.Proofs.Ytgmaalokfgdpaaa
namespace Go.Proofs.Ytgmaalokfgdpaaa
open Go.RowKit
/-- A curve's seven cells. -/
theorem loadC_is (v : Value) : Instr.loadAt 36 v = loadS 36 v := rfl
theorem storeC_is (p v : Value) : Instr.storeAt 36 p v = storeS 36 p v := rfl
theorem loadC (w : World) (b : Nat) (hs : (blk w b).size = 7) : (loadS 36 (.pointer (some ⟨b, 0, none⟩))).run Try.prog w = .ok (.agg (blk w b)) w :=
  loadS_run 7 Try.underlying36 rfl (by kernel_rfl) w b hs
theorem storeC (w : World) (b : Nat) (id : Int) (p0 p1 p2 p3 p4 : Option Addr) (l0 l1 l2 l3 l4 n0 n1 n2 n3 n4 : Nat) (hs : (blk w b).size = 7) (hf : frz w b = (0, 0)) :
    (storeS 36 (.pointer (some ⟨b, 0, none⟩)) (.agg #[.int .i64 id, .slice p0 l0 n0, .slice none 0 0, .slice p1 l1 n1, .slice p2 l2 n2, .slice p3 l3 n3, .slice p4 l4 n4])).run Try.prog w = .ok () (setBlk w b #[.int .i64 id, .slice p0 l0 n0, .slice none 0 0, .slice p1 l1 n1, .slice p2 l2 n2, .slice p3 l3 n3, .slice p4 l4 n4]) :=
  storeS_run 7 (by decide) (by kernel_rfl) w b _ rfl (by simp [Value.oneCell']) hs hf
theorem storeC7 (w : World) (b : Nat) (id : Int) (p0 p1 p2 p3 p4 p5 : Option Addr) (l0 l1 l2 l3 l4 l5 n0 n1 n2 n3 n4 n5 : Nat) (hs : (blk w b).size = 7) (hf : frz w b = (0, 0)) :
    (storeS 36 (.pointer (some ⟨b, 0, none⟩)) (.agg #[.int .i64 id, .slice p0 l0 n0, .slice p5 l5 n5, .slice p1 l1 n1, .slice p2 l2 n2, .slice p3 l3 n3, .slice p4 l4 n4])).run Try.prog w = .ok () (setBlk w b #[.int .i64 id, .slice p0 l0 n0, .slice p5 l5 n5, .slice p1 l1 n1, .slice p2 l2 n2, .slice p3 l3 n3, .slice p4 l4 n4]) :=
  storeS_run 7 (by decide) (by kernel_rfl) w b _ rfl (by simp [Value.oneCell']) hs hf
/-- A curve's cells: its id, its P, and five more numbers. -/
def cvA (id : Int) (p : Option Addr) (l n : Nat) (q : Nat → Option Addr × Nat × Nat) : Array Value := #[.int .i64 id, .slice p l n, .slice (q 0).1 (q 0).2.1 (q 0).2.2, .slice (q 1).1 (q 1).2.1 (q 1).2.2, .slice (q 2).1 (q 2).2.1 (q 2).2.2, .slice (q 3).1 (q 3).2.1 (q 3).2.2, .slice (q 4).1 (q 4).2.1 (q 4).2.2]
/-- A curve's cells, each number known. -/
def crA (id : Int) (x : Nat → Nat) (q : Nat → Option Addr × Nat) : Array Value := #[.int .i64 id, .slice (q 0).1 (dl (x 0)) (q 0).2, .slice (q 1).1 (dl (x 1)) (q 1).2, .slice (q 2).1 (dl (x 2)) (q 2).2, .slice (q 3).1 (dl (x 3)) (q 3).2, .slice (q 4).1 (dl (x 4)) (q 4).2, .slice (q 5).1 (dl (x 5)) (q 5).2]
theorem crA_cvA (id : Int) (x : Nat → Nat) (q : Nat → Option Addr × Nat) : crA id x q = cvA id (q 0).1 (dl (x 0)) (q 0).2 (fun k => ((q (k + 1)).1, dl (x (k + 1)), (q (k + 1)).2)) := rfl
def six {α : Type} (a b c d e f : α) : Nat → α
  | 0 => a
  | 1 => b
  | 2 => c
  | 3 => d
  | 4 => e
  | _ => f
theorem storeC0 (w : World) (b : Nat) (hs : (blk w b).size = 7) (hf : frz w b = (0, 0)) :
    (storeS 36 (.pointer (some ⟨b, 0, none⟩)) (.agg #[.int .i64 0, .slice none 0 0, .slice none 0 0, .slice none 0 0, .slice none 0 0, .slice none 0 0, .slice none 0 0])).run Try.prog w = .ok () (setBlk w b #[.int .i64 0, .slice none 0 0, .slice none 0 0, .slice none 0 0, .slice none 0 0, .slice none 0 0, .slice none 0 0]) :=
  storeS_run 7 (by decide) (by kernel_rfl) w b _ rfl (by simp [Value.oneCell']) hs hf
def buildG (t : TypeId) (p : Array (Nat × Value)) : Sem Value := Instr.build t p
theorem buildC_is (p : Array (Nat × Value)) : Instr.build 36 p = buildG 36 p := rfl
theorem buildC0 (w : World) : (buildG 36 #[]).run Try.prog w = .ok (.agg #[.int .i64 0, .slice none 0 0, .slice none 0 0, .slice none 0 0, .slice none 0 0, .slice none 0 0, .slice none 0 0]) w := by kernel_rfl
theorem buildC6 (w : World) (id : Int) (p0 p1 p2 p3 p4 : Option Addr) (l0 l1 l2 l3 l4 n0 n1 n2 n3 n4 : Nat) :
    (buildG 36 #[(0, .int .i64 id), (1, .slice p0 l0 n0), (3, .slice p1 l1 n1), (4, .slice p2 l2 n2), (5, .slice p3 l3 n3), (6, .slice p4 l4 n4)]).run Try.prog w = .ok (.agg #[.int .i64 id, .slice p0 l0 n0, .slice none 0 0, .slice p1 l1 n1, .slice p2 l2 n2, .slice p3 l3 n3, .slice p4 l4 n4]) w := by kernel_rfl
theorem eqSl (b : Nat) (w : World) : (binOp .eql 70 (.slice (some ⟨b, 0, none⟩) 6 6) (.slice none 0 0)).run Try.prog w = .ok (.bool false) w := by kernel_rfl
theorem eqSl0 (w : World) : (binOp .eql 70 (.slice none 0 0) (.slice none 0 0)).run Try.prog w = .ok (.bool true) w := by kernel_rfl
attribute [local go_sem ↓] loadNat_is loadArr_is loadWide_is loadArrW_is storeNat_is storeWide_is
attribute [local go_sem] loadNat loadArr loadWide loadArrW storeNat storeWide idxArr fold9 fold18 nw_size nw_elem pre_self pre_1 pre_2 pre_3 pre_4 pre_5 pre_6 pre_7 pre_8 pre_9 pre_10 pre_11 pre_12 pre_13 pre_14 pre_15 pre_16 pre_17 pre_18 pre_19 pre_20 pre_21 pre_22 pre_23 pre_24 pre_25 pre_26 pre_27 pre_28 pre_29 pre_30 pre_31 pre_32 pre_33 pre_34 pre_35 pre_36 pre_37 pre_38 pre_39 pre_40 gro_size gro_drew gro_drewN drew_gro drewN_gro gro_gro blk_gro frz_gro blk_drew frz_drew blk_drewN frz_drewN blk_alloc_at frz_alloc_at blk_alloc frz_alloc cell_gro frozen_gro cell_alloc_pre frozen_alloc_pre setCell_drewN alloc_drewN setBlk_drew setBlk_drewN setBlk_alloc_at setBlk_alloc setBlk_gro setCell_gro setCell_alloc_pre size_setBlk size_setCell
attribute [local go_sem ↓] loadC_is storeC_is buildC_is bsl_is
attribute [local go_sem] eqSl eqSl0 loadC storeC0 buildC0 buildC6 frz_setBlk blk_setBlk setBlk_setBlk
theorem noU (id : Int) (c1 c2 c3 c4 c5 c6 : Option Addr × Nat × Nat) (i : Nat) (n : Int) : (#[.int .i64 id, .slice c1.1 c1.2.1 c1.2.2, .slice c2.1 c2.2.1 c2.2.2, .slice c3.1 c3.2.1 c3.2.2, .slice c4.1 c4.2.1 c4.2.2, .slice c5.1 c5.2.1 c5.2.2, .slice c6.1 c6.2.1 c6.2.2] : Array Value)[i]? ≠ some (Value.int .u32 n) := by
  intro h
  match i, h with
  | 0, h => simp at h
  | 1, h => simp at h
  | 2, h => simp at h
  | 3, h => simp at h
  | 4, h => simp at h
  | 5, h => simp at h
  | 6, h => simp at h
  | k + 7, h => simp at h
set_option maxRecDepth 100000 in
set_option maxHeartbeats 4000000 in
theorem get_of (id : Int) (s0 s1 s2 s3 s4 s5 : ByteArray) (x0 x1 x2 x3 x4 x5 : Nat)
    (HR : ∀ w, Calls Try.prog 36 #[.int .i64 id] w fun e w' => ∃ b, e = .returned (.slice (some ⟨b, 0, none⟩) 6 6) ∧ blk w' b = #[.string s0, .string s1, .string s2, .string s3, .string s4, .string s5] ∧ Pre (b + 1) w'.heap.size ∧ Gr w w')
    (H0 : ∀ w, Calls Try.prog 37 #[.string s0] w (Nm x0 w)) (H2 : ∀ w, Calls Try.prog 37 #[.string s2] w (Nm x2 w)) (H3 : ∀ w, Calls Try.prog 37 #[.string s3] w (Nm x3 w))
    (H4 : ∀ w, Calls Try.prog 37 #[.string s4] w (Nm x4 w)) (H5 : ∀ w, Calls Try.prog 37 #[.string s5] w (Nm x5 w))
    (h1 : (s1 = ⟨#[45]⟩ ∧ 3 ≤ x0 ∧ dl x0 ≤ 50000 ∧ x0 - 3 = x1) ∨ ((s1.toList == [45]) = false ∧ ∀ w, Calls Try.prog 37 #[.string s1] w (Nm x1 w))) (w : World) :
    Calls Try.prog 10 #[.int .i64 id] w fun e w' => ∃ q, e = .returned (.tuple #[.agg (crA id (six x0 x1 x2 x3 x4 x5) q), .bool true]) ∧ (∀ k, Sl w' (q k).1 (six x0 x1 x2 x3 x4 x5 k)) ∧ Gr w w' := by
  have HR' : Hid (∀ w, Calls Try.prog 36 #[.int .i64 id] w fun e w' => ∃ b, e = .returned (.slice (some ⟨b, 0, none⟩) 6 6) ∧ blk w' b = #[.string s0, .string s1, .string s2, .string s3, .string s4, .string s5] ∧ Pre (b + 1) w'.heap.size ∧ Gr w w') := HR
  have HX0 : Hid (∀ w, Calls Try.prog 37 #[.string s0] w (Nm x0 w)) := H0
  have HX2 : Hid (∀ w, Calls Try.prog 37 #[.string s2] w (Nm x2 w)) := H2
  have HX3 : Hid (∀ w, Calls Try.prog 37 #[.string s3] w (Nm x3 w)) := H3
  have HX4 : Hid (∀ w, Calls Try.prog 37 #[.string s4] w (Nm x4 w)) := H4
  have HX5 : Hid (∀ w, Calls Try.prog 37 #[.string s5] w (Nm x5 w)) := H5
  clear HR H0 H2 H3 H4 H5
  go_enter Try.func10, Try.ntmps10
  go_upto_region 4 with (go_at_call 36; refine (HR'.out _).mono ?_; rintro e W1 ⟨rb, rfl, hrb, prb, G1⟩)
  have G0 : Gr w W1 := Gr.trans ((Gr.refl _).alloc _) G1
  have c1 : blk W1 w.heap.size = #[.int .i64 0, .slice none 0 0, .slice none 0 0, .slice none 0 0, .slice none 0 0, .slice none 0 0, .slice none 0 0] := by rw [G1.blk _ (by simp)]; simp [go_sem]
  have c2 : frz W1 w.heap.size = (0, 0) := by rw [G1.frz _ (by simp)]; simp [go_sem]
  have c3 : Pre (w.heap.size + 1) W1.heap.size := by have := G1.below.size; simp at this; exact this
  have hmk : ∀ f g : Nat → Value, (∀ j ∈ [4, 8, 12, 16, 20], f j = g j) → (fun f => #[.int .i64 id, f 4, .slice none 0 0, f 8, f 12, f 16, f 20]) f = (fun f => #[.int .i64 id, f 4, .slice none 0 0, f 8, f 12, f 16, f 20]) g := fun f g h => by
    show #[Value.int .i64 id, f 4, .slice none 0 0, f 8, f 12, f 16, f 20] = #[Value.int .i64 id, g 4, .slice none 0 0, g 8, g 12, g 16, g 20]
    rw [h 4 (by simp), h 8 (by simp), h 12 (by simp), h 16 (by simp), h 20 (by simp)]
  refine wp_region_mix (by kernel_rfl) (by kernel_rfl) (RQ _ [.c (.int .i64 id), .c (.slice (some ⟨rb, 0, none⟩) 6 6), .c (.pointer (some ⟨rb, 0, none⟩)), .c (.string s0), .n x0, .c (.slice (some ⟨rb, 0, none⟩) 6 6), .c (.pointer (some ⟨rb, 2, none⟩)), .c (.string s2), .n x2, .c (.slice (some ⟨rb, 0, none⟩) 6 6), .c (.pointer (some ⟨rb, 3, none⟩)), .c (.string s3), .n x3, .c (.slice (some ⟨rb, 0, none⟩) 6 6), .c (.pointer (some ⟨rb, 4, none⟩)), .c (.string s4), .n x4, .c (.slice (some ⟨rb, 0, none⟩) 6 6), .c (.pointer (some ⟨rb, 5, none⟩)), .c (.string s5), .n x5] [4, 8, 12, 16, 20] (fun f => #[.int .i64 id, f 4, .slice none 0 0, f 8, f 12, f 16, f 20]) #[.int .i64 0, .slice none 0 0, .slice none 0 0, .slice none 0 0, .slice none 0 0, .slice none 0 0, .slice none 0 0] 21 22 23) (RQ.start _ _ _ _ _ _ _ _ _ _) ?hs ?hf
  case hs =>
    intro listed vals a1 v1 i o2 hz hR hF ho hl hd
    have hi : i < 24 := by simpa using (Array.getElem?_eq_some_iff.1 ho).1
    have hil : i < listed.size := by rw [hz]; simpa using hi
    have hc0 : v1.cell? ⟨rb, 0, none⟩ = some (.string s0) := by rw [cell_blk, hR.g.blk _ prb, hrb]; rfl
    have hc2 : v1.cell? ⟨rb, 2, none⟩ = some (.string s2) := by rw [cell_blk, hR.g.blk _ prb, hrb]; rfl
    have hc3 : v1.cell? ⟨rb, 3, none⟩ = some (.string s3) := by rw [cell_blk, hR.g.blk _ prb, hrb]; rfl
    have hc4 : v1.cell? ⟨rb, 4, none⟩ = some (.string s4) := by rw [cell_blk, hR.g.blk _ prb, hrb]; rfl
    have hc5 : v1.cell? ⟨rb, 5, none⟩ = some (.string s5) := by rw [cell_blk, hR.g.blk _ prb, hrb]; rfl
    obtain rfl | rfl | rfl | rfl | rfl | rfl | rfl | rfl | rfl | rfl | rfl | rfl | rfl | rfl | rfl | rfl | rfl | rfl | rfl | rfl | rfl | rfl | rfl | rfl : i = 0 ∨ i = 1 ∨ i = 2 ∨ i = 3 ∨ i = 4 ∨ i = 5 ∨ i = 6 ∨ i = 7 ∨ i = 8 ∨ i = 9 ∨ i = 10 ∨ i = 11 ∨ i = 12 ∨ i = 13 ∨ i = 14 ∨ i = 15 ∨ i = 16 ∨ i = 17 ∨ i = 18 ∨ i = 19 ∨ i = 20 ∨ i = 21 ∨ i = 22 ∨ i = 23 := by omega
    · obtain rfl := Option.some.inj ho
      have f0 := hF.old (s := 0) (v := .int .i64 id) (by kernel_rfl) rfl
      exact wp_val (.int .i64 id) (by simp [go_sem, f0]) ⟨_, rfl, RQ.quiet hmk 0 _ hil hl (by decide) (by decide) (by decide) (Gr.refl _) rfl hR⟩
    · obtain rfl := Option.some.inj ho
      have f0 := hF.old (s := 4) (v := .slice (some ⟨rb, 0, none⟩) 6 6) (by kernel_rfl) rfl
      exact wp_val (.slice (some ⟨rb, 0, none⟩) 6 6) (by simp [go_sem, f0]) ⟨_, rfl, RQ.quiet hmk 1 _ hil hl (by decide) (by decide) (by decide) (Gr.refl _) rfl hR⟩
    · obtain rfl := Option.some.inj ho
      have l0 := hd ⟨1, .data⟩ (by simp) rfl
      have f0 := hF.at (s := 12) (i := 1) (by kernel_rfl) (by simp) l0
      rw [show vals 1 = .slice (some ⟨rb, 0, none⟩) 6 6 from hR.k 1 l0] at f0
      exact wp_val (.pointer (some ⟨rb, 0, none⟩)) (by simp [go_sem, f0]) ⟨_, rfl, RQ.quiet hmk 2 _ hil hl (by decide) (by decide) (by decide) (Gr.refl _) rfl hR⟩
    · obtain rfl := Option.some.inj ho
      have l0 := hd ⟨2, .data⟩ (by simp) rfl
      have f0 := hF.at (s := 13) (i := 2) (by kernel_rfl) (by simp) l0
      rw [show vals 2 = .pointer (some ⟨rb, 0, none⟩) from hR.k 2 l0] at f0
      exact wp_val (.string s0) (by simp [go_sem, f0, hc0]) ⟨_, rfl, RQ.quiet hmk 3 _ hil hl (by decide) (by decide) (by decide) (Gr.refl _) rfl hR⟩
    · obtain rfl := Option.some.inj ho
      have l0 := hd ⟨3, .data⟩ (by simp) rfl
      have f0 := hF.at (s := 14) (i := 3) (by kernel_rfl) (by simp) l0
      rw [show vals 3 = .string s0 from hR.k 3 l0] at f0
      exact wp_retN (by simp [go_sem, f0]) (HX0.out _) (fun p n w2 hS hg => ⟨_, rfl, RQ.quiet hmk 4 _ hil hl (by decide) (by decide) (by decide) hg ⟨p, n, rfl, hS⟩ hR⟩)
    · obtain rfl := Option.some.inj ho
      have f0 := hF.old (s := 4) (v := .slice (some ⟨rb, 0, none⟩) 6 6) (by kernel_rfl) rfl
      exact wp_val (.slice (some ⟨rb, 0, none⟩) 6 6) (by simp [go_sem, f0]) ⟨_, rfl, RQ.quiet hmk 5 _ hil hl (by decide) (by decide) (by decide) (Gr.refl _) rfl hR⟩
    · obtain rfl := Option.some.inj ho
      have l0 := hd ⟨5, .data⟩ (by simp) rfl
      have f0 := hF.at (s := 16) (i := 5) (by kernel_rfl) (by simp) l0
      rw [show vals 5 = .slice (some ⟨rb, 0, none⟩) 6 6 from hR.k 5 l0] at f0
      exact wp_val (.pointer (some ⟨rb, 2, none⟩)) (by simp [go_sem, f0]) ⟨_, rfl, RQ.quiet hmk 6 _ hil hl (by decide) (by decide) (by decide) (Gr.refl _) rfl hR⟩
    · obtain rfl := Option.some.inj ho
      have l0 := hd ⟨6, .data⟩ (by simp) rfl
      have f0 := hF.at (s := 17) (i := 6) (by kernel_rfl) (by simp) l0
      rw [show vals 6 = .pointer (some ⟨rb, 2, none⟩) from hR.k 6 l0] at f0
      exact wp_val (.string s2) (by simp [go_sem, f0, hc2]) ⟨_, rfl, RQ.quiet hmk 7 _ hil hl (by decide) (by decide) (by decide) (Gr.refl _) rfl hR⟩
    · obtain rfl := Option.some.inj ho
      have l0 := hd ⟨7, .data⟩ (by simp) rfl
      have f0 := hF.at (s := 18) (i := 7) (by kernel_rfl) (by simp) l0
      rw [show vals 7 = .string s2 from hR.k 7 l0] at f0
      exact wp_retN (by simp [go_sem, f0]) (HX2.out _) (fun p n w2 hS hg => ⟨_, rfl, RQ.quiet hmk 8 _ hil hl (by decide) (by decide) (by decide) hg ⟨p, n, rfl, hS⟩ hR⟩)
    · obtain rfl := Option.some.inj ho
      have f0 := hF.old (s := 4) (v := .slice (some ⟨rb, 0, none⟩) 6 6) (by kernel_rfl) rfl
      exact wp_val (.slice (some ⟨rb, 0, none⟩) 6 6) (by simp [go_sem, f0]) ⟨_, rfl, RQ.quiet hmk 9 _ hil hl (by decide) (by decide) (by decide) (Gr.refl _) rfl hR⟩
    · obtain rfl := Option.some.inj ho
      have l0 := hd ⟨9, .data⟩ (by simp) rfl
      have f0 := hF.at (s := 20) (i := 9) (by kernel_rfl) (by simp) l0
      rw [show vals 9 = .slice (some ⟨rb, 0, none⟩) 6 6 from hR.k 9 l0] at f0
      exact wp_val (.pointer (some ⟨rb, 3, none⟩)) (by simp [go_sem, f0]) ⟨_, rfl, RQ.quiet hmk 10 _ hil hl (by decide) (by decide) (by decide) (Gr.refl _) rfl hR⟩
    · obtain rfl := Option.some.inj ho
      have l0 := hd ⟨10, .data⟩ (by simp) rfl
      have f0 := hF.at (s := 21) (i := 10) (by kernel_rfl) (by simp) l0
      rw [show vals 10 = .pointer (some ⟨rb, 3, none⟩) from hR.k 10 l0] at f0
      exact wp_val (.string s3) (by simp [go_sem, f0, hc3]) ⟨_, rfl, RQ.quiet hmk 11 _ hil hl (by decide) (by decide) (by decide) (Gr.refl _) rfl hR⟩
    · obtain rfl := Option.some.inj ho
      have l0 := hd ⟨11, .data⟩ (by simp) rfl
      have f0 := hF.at (s := 22) (i := 11) (by kernel_rfl) (by simp) l0
      rw [show vals 11 = .string s3 from hR.k 11 l0] at f0
      exact wp_retN (by simp [go_sem, f0]) (HX3.out _) (fun p n w2 hS hg => ⟨_, rfl, RQ.quiet hmk 12 _ hil hl (by decide) (by decide) (by decide) hg ⟨p, n, rfl, hS⟩ hR⟩)
    · obtain rfl := Option.some.inj ho
      have f0 := hF.old (s := 4) (v := .slice (some ⟨rb, 0, none⟩) 6 6) (by kernel_rfl) rfl
      exact wp_val (.slice (some ⟨rb, 0, none⟩) 6 6) (by simp [go_sem, f0]) ⟨_, rfl, RQ.quiet hmk 13 _ hil hl (by decide) (by decide) (by decide) (Gr.refl _) rfl hR⟩
    · obtain rfl := Option.some.inj ho
      have l0 := hd ⟨13, .data⟩ (by simp) rfl
      have f0 := hF.at (s := 24) (i := 13) (by kernel_rfl) (by simp) l0
      rw [show vals 13 = .slice (some ⟨rb, 0, none⟩) 6 6 from hR.k 13 l0] at f0
      exact wp_val (.pointer (some ⟨rb, 4, none⟩)) (by simp [go_sem, f0]) ⟨_, rfl, RQ.quiet hmk 14 _ hil hl (by decide) (by decide) (by decide) (Gr.refl _) rfl hR⟩
    · obtain rfl := Option.some.inj ho
      have l0 := hd ⟨14, .data⟩ (by simp) rfl
      have f0 := hF.at (s := 25) (i := 14) (by kernel_rfl) (by simp) l0
      rw [show vals 14 = .pointer (some ⟨rb, 4, none⟩) from hR.k 14 l0] at f0
      exact wp_val (.string s4) (by simp [go_sem, f0, hc4]) ⟨_, rfl, RQ.quiet hmk 15 _ hil hl (by decide) (by decide) (by decide) (Gr.refl _) rfl hR⟩
    · obtain rfl := Option.some.inj ho
      have l0 := hd ⟨15, .data⟩ (by simp) rfl
      have f0 := hF.at (s := 26) (i := 15) (by kernel_rfl) (by simp) l0
      rw [show vals 15 = .string s4 from hR.k 15 l0] at f0
      exact wp_retN (by simp [go_sem, f0]) (HX4.out _) (fun p n w2 hS hg => ⟨_, rfl, RQ.quiet hmk 16 _ hil hl (by decide) (by decide) (by decide) hg ⟨p, n, rfl, hS⟩ hR⟩)
    · obtain rfl := Option.some.inj ho
      have f0 := hF.old (s := 4) (v := .slice (some ⟨rb, 0, none⟩) 6 6) (by kernel_rfl) rfl
      exact wp_val (.slice (some ⟨rb, 0, none⟩) 6 6) (by simp [go_sem, f0]) ⟨_, rfl, RQ.quiet hmk 17 _ hil hl (by decide) (by decide) (by decide) (Gr.refl _) rfl hR⟩
    · obtain rfl := Option.some.inj ho
      have l0 := hd ⟨17, .data⟩ (by simp) rfl
      have f0 := hF.at (s := 28) (i := 17) (by kernel_rfl) (by simp) l0
      rw [show vals 17 = .slice (some ⟨rb, 0, none⟩) 6 6 from hR.k 17 l0] at f0
      exact wp_val (.pointer (some ⟨rb, 5, none⟩)) (by simp [go_sem, f0]) ⟨_, rfl, RQ.quiet hmk 18 _ hil hl (by decide) (by decide) (by decide) (Gr.refl _) rfl hR⟩
    · obtain rfl := Option.some.inj ho
      have l0 := hd ⟨18, .data⟩ (by simp) rfl
      have f0 := hF.at (s := 29) (i := 18) (by kernel_rfl) (by simp) l0
      rw [show vals 18 = .pointer (some ⟨rb, 5, none⟩) from hR.k 18 l0] at f0
      exact wp_val (.string s5) (by simp [go_sem, f0, hc5]) ⟨_, rfl, RQ.quiet hmk 19 _ hil hl (by decide) (by decide) (by decide) (Gr.refl _) rfl hR⟩
    · obtain rfl := Option.some.inj ho
      have l0 := hd ⟨19, .data⟩ (by simp) rfl
      have f0 := hF.at (s := 30) (i := 19) (by kernel_rfl) (by simp) l0
      rw [show vals 19 = .string s5 from hR.k 19 l0] at f0
      exact wp_retN (by simp [go_sem, f0]) (HX5.out _) (fun p n w2 hS hg => ⟨_, rfl, RQ.quiet hmk 20 _ hil hl (by decide) (by decide) (by decide) hg ⟨p, n, rfl, hS⟩ hR⟩)
    · obtain rfl := Option.some.inj ho
      have l0 := hd ⟨0, .data⟩ (by simp) rfl
      have f0 := hF.at (s := 11) (i := 0) (by kernel_rfl) (by simp) l0
      rw [show vals 0 = .int .i64 id from hR.k 0 l0] at f0
      have l1 := hd ⟨4, .data⟩ (by simp) rfl
      have f1 := hF.at (s := 15) (i := 4) (by kernel_rfl) (by simp) l1
      obtain ⟨p1, n1, e1, -⟩ := (show ∃ p n, vals 4 = Value.slice p (dl x0) n ∧ Sl v1 p x0 from hR.k 4 l1)
      rw [e1] at f1
      have l2 := hd ⟨8, .data⟩ (by simp) rfl
      have f2 := hF.at (s := 19) (i := 8) (by kernel_rfl) (by simp) l2
      obtain ⟨p2, n2, e2, -⟩ := (show ∃ p n, vals 8 = Value.slice p (dl x2) n ∧ Sl v1 p x2 from hR.k 8 l2)
      rw [e2] at f2
      have l3 := hd ⟨12, .data⟩ (by simp) rfl
      have f3 := hF.at (s := 23) (i := 12) (by kernel_rfl) (by simp) l3
      obtain ⟨p3, n3, e3, -⟩ := (show ∃ p n, vals 12 = Value.slice p (dl x3) n ∧ Sl v1 p x3 from hR.k 12 l3)
      rw [e3] at f3
      have l4 := hd ⟨16, .data⟩ (by simp) rfl
      have f4 := hF.at (s := 27) (i := 16) (by kernel_rfl) (by simp) l4
      obtain ⟨p4, n4, e4, -⟩ := (show ∃ p n, vals 16 = Value.slice p (dl x4) n ∧ Sl v1 p x4 from hR.k 16 l4)
      rw [e4] at f4
      have l5 := hd ⟨20, .data⟩ (by simp) rfl
      have f5 := hF.at (s := 31) (i := 20) (by kernel_rfl) (by simp) l5
      obtain ⟨p5, n5, e5, -⟩ := (show ∃ p n, vals 20 = Value.slice p (dl x5) n ∧ Sl v1 p x5 from hR.k 20 l5)
      rw [e5] at f5
      have hb := RQ.build hmk hil hl (by decide) (by decide) (by decide) rfl (fun j hj => by
        simp only [List.mem_cons, List.not_mem_nil, or_false] at hj
        rcases hj with rfl | rfl | rfl | rfl | rfl
        · exact l1
        · exact l2
        · exact l3
        · exact l4
        · exact l5) hR
      refine wp_val _ ?_ ⟨_, rfl, hb⟩
      simp [go_sem, f0, f1, f2, f3, f4, f5, e1, e2, e3, e4, e5]
    · obtain rfl := Option.some.inj ho
      exact wp_val (.pointer (some ⟨v1.heap.size, 0, none⟩)) (w' := v1.alloc (.cells #[.int .i64 0, .slice none 0 0, .slice none 0 0, .slice none 0 0, .slice none 0 0, .slice none 0 0, .slice none 0 0] 36)) (by simp [go_sem]) ⟨_, rfl, RQ.alloc hmk 36 hil hl (by decide) (by decide) (by decide) rfl hR⟩
    · obtain rfl := Option.some.inj ho
      have lb := hd ⟨21, .data⟩ (by simp) rfl
      have la := hd ⟨22, .data⟩ (by simp) rfl
      obtain ⟨b, e0, g2, g3, g4, g5, -⟩ := hR.a la
      have f0 := hF.at (s := 5) (i := 22) (by kernel_rfl) (by simp) la
      rw [e0] at f0
      have f1 := hF.at (s := 32) (i := 21) (by kernel_rfl) (by simp) lb
      rw [(hR.d lb).2] at f1
      obtain ⟨p0, n0, e1, -⟩ := (show ∃ p n, vals 4 = Value.slice p (dl x0) n ∧ Sl v1 p x0 from hR.k 4 ((hR.d lb).1 4 (by simp)))
      obtain ⟨p1, n1, e2, -⟩ := (show ∃ p n, vals 8 = Value.slice p (dl x2) n ∧ Sl v1 p x2 from hR.k 8 ((hR.d lb).1 8 (by simp)))
      obtain ⟨p2, n2, e3, -⟩ := (show ∃ p n, vals 12 = Value.slice p (dl x3) n ∧ Sl v1 p x3 from hR.k 12 ((hR.d lb).1 12 (by simp)))
      obtain ⟨p3, n3, e4, -⟩ := (show ∃ p n, vals 16 = Value.slice p (dl x4) n ∧ Sl v1 p x4 from hR.k 16 ((hR.d lb).1 16 (by simp)))
      obtain ⟨p4, n4, e5, -⟩ := (show ∃ p n, vals 20 = Value.slice p (dl x5) n ∧ Sl v1 p x5 from hR.k 20 ((hR.d lb).1 20 (by simp)))
      have hst := RQ.store hmk hil hl (by decide) (by decide) (by decide) rfl (fun i n => by
        intro h
        match i, h with
        | 0, h => simp at h
        | 1, h => simp at h
        | 2, h => simp at h
        | 3, h => simp at h
        | 4, h => simp at h
        | 5, h => simp at h
        | 6, h => simp at h
        | k + 7, h => simp at h) (by decide) lb la b e0 hR
      refine wp_skip ?_ ⟨undef, rfl, hst⟩
      have g6 := g5 hl
      simp only [e1, e2, e3, e4, e5] at f1 ⊢
      have hsr := storeC v1 b id p0 p1 p2 p3 p4 (dl x0) (dl x2) (dl x3) (dl x4) (dl x5) n0 n1 n2 n3 n4 (by rw [g6]; rfl) g4
      simp [go_sem, f0, f1, hsr]
  case hf =>
    intro listed vals a1 v1 hall hR hF
    have y0 : vals 0 = .int .i64 id := hR.k 0 (hall 0 (by simp))
    have y1 : vals 1 = .slice (some ⟨rb, 0, none⟩) 6 6 := hR.k 1 (hall 1 (by simp))
    have y2 : vals 2 = .pointer (some ⟨rb, 0, none⟩) := hR.k 2 (hall 2 (by simp))
    have y3 : vals 3 = .string s0 := hR.k 3 (hall 3 (by simp))
    obtain ⟨p4, n4, y4, S4⟩ := (show ∃ p n, vals 4 = Value.slice p (dl x0) n ∧ Sl v1 p x0 from hR.k 4 (hall 4 (by simp)))
    have y5 : vals 5 = .slice (some ⟨rb, 0, none⟩) 6 6 := hR.k 5 (hall 5 (by simp))
    have y6 : vals 6 = .pointer (some ⟨rb, 2, none⟩) := hR.k 6 (hall 6 (by simp))
    have y7 : vals 7 = .string s2 := hR.k 7 (hall 7 (by simp))
    obtain ⟨p8, n8, y8, S8⟩ := (show ∃ p n, vals 8 = Value.slice p (dl x2) n ∧ Sl v1 p x2 from hR.k 8 (hall 8 (by simp)))
    have y9 : vals 9 = .slice (some ⟨rb, 0, none⟩) 6 6 := hR.k 9 (hall 9 (by simp))
    have y10 : vals 10 = .pointer (some ⟨rb, 3, none⟩) := hR.k 10 (hall 10 (by simp))
    have y11 : vals 11 = .string s3 := hR.k 11 (hall 11 (by simp))
    obtain ⟨p12, n12, y12, S12⟩ := (show ∃ p n, vals 12 = Value.slice p (dl x3) n ∧ Sl v1 p x3 from hR.k 12 (hall 12 (by simp)))
    have y13 : vals 13 = .slice (some ⟨rb, 0, none⟩) 6 6 := hR.k 13 (hall 13 (by simp))
    have y14 : vals 14 = .pointer (some ⟨rb, 4, none⟩) := hR.k 14 (hall 14 (by simp))
    have y15 : vals 15 = .string s4 := hR.k 15 (hall 15 (by simp))
    obtain ⟨p16, n16, y16, S16⟩ := (show ∃ p n, vals 16 = Value.slice p (dl x4) n ∧ Sl v1 p x4 from hR.k 16 (hall 16 (by simp)))
    have y17 : vals 17 = .slice (some ⟨rb, 0, none⟩) 6 6 := hR.k 17 (hall 17 (by simp))
    have y18 : vals 18 = .pointer (some ⟨rb, 5, none⟩) := hR.k 18 (hall 18 (by simp))
    have y19 : vals 19 = .string s5 := hR.k 19 (hall 19 (by simp))
    obtain ⟨p20, n20, y20, S20⟩ := (show ∃ p n, vals 20 = Value.slice p (dl x5) n ∧ Sl v1 p x5 from hR.k 20 (hall 20 (by simp)))
    obtain ⟨b, y22, q1, q2, q3, -, q4⟩ := hR.a (hall 22 (by simp))
    have q4 := q4 (hall 23 (by simp))
    have y21 := (hR.d (hall 21 (by simp))).2
    simp only [y4, y8, y12, y16, y20] at q4 y21
    have g1 := hR.g
    rw [hF.final (by kernel_rfl) hall]
    simp only [putFrom, Act.put, List.setIfInBounds_toArray, List.set_cons_zero, List.set_cons_succ, y0, y1, y2, y3, y4, y5, y6, y7, y8, y9, y10, y11, y12, y13, y14, y15, y16, y17, y18, y19, y20, y21, y22]
    clear hR hF hall y0 y1 y2 y3 y4 y5 y6 y7 y8 y9 y10 y11 y12 y13 y14 y15 y16 y17 y18 y19 y20 y21 y22
    have hr1 : v1.cell? ⟨rb, 1, none⟩ = some (.string s1) := by rw [cell_blk, g1.blk _ prb, hrb]; rfl
    have pr1 : Pre (rb + 1) v1.heap.size := Nat.le_trans prb g1.below.size
    have d1 : blk v1 w.heap.size = #[.int .i64 0, .slice none 0 0, .slice none 0 0, .slice none 0 0, .slice none 0 0, .slice none 0 0, .slice none 0 0] := by rw [g1.blk _ c3]; exact c1
    have d2 : frz v1 w.heap.size = (0, 0) := by rw [g1.frz _ c3]; exact c2
    have d3 : Pre (w.heap.size + 1) v1.heap.size := Nat.le_trans c3 g1.below.size
    have q0 : w.heap.size ≤ b := Nat.le_trans G0.below.size q1
    have nb : b ≠ w.heap.size := by have : w.heap.size + 1 ≤ W1.heap.size := c3; omega
    have nb' : ¬ w.heap.size = b := Ne.symm nb
    have hcP : v1.cell? ⟨b, 1, none⟩ = some (.slice p4 (dl x0) n4) := by rw [cell_blk, q4]; rfl
    have GA : Gr w v1 := G0.trans g1
    clear hmk HR' HX0 HX2 HX3 HX4 HX5 c1 c2 c3 G0 G1
    rcases h1 with ⟨hs1, h3, h5, hx1⟩ | ⟨hne, H1⟩
    · have HS : Hid (∀ w' q k, Gr v1 w' → Sl w' q 3 → Calls Try.prog 21 #[.slice p4 (dl x0) n4, .slice q 1 k] w' (Nm (x0 - 3) w')) := fun w' q k g hq => rsub_any x0 3 n4 k p4 q w' (S4.gr g) hq h5 h3
      have hb3 : ∀ w, (bslS 34 1 #[(0, .int .u32 3)]).run Try.prog w = .ok (.slice (some ⟨w.heap.size, 0, none⟩) 1 1) (w.alloc (.cells (nd 1 3) 55)) := fun w => build1 3 (by decide) w
      have hT : Sl (v1.alloc (.cells (nd 1 3) 55)) (some ⟨v1.heap.size, 0, none⟩) 3 := Sl.of_blk (n := 1) (by simp [go_sem]) (by simp [go_sem]) (by decide)
      subst hs1 hx1
      clear h3 h5
      go_upto_region 8 with (go_at_call 21; refine (HS.out _ _ _ ?_ ?_).mono ?_; exact (Gr.refl _).alloc _; exact hT; rintro e W2 ⟨p2, n2, rfl, S2, G2⟩; (have g2 : Gr v1 W2 := ((Gr.refl _).alloc _).trans G2); (have hcb : blk W2 b = #[.int .i64 id, .slice p4 (dl x0) n4, .slice none 0 0, .slice p8 (dl x2) n8, .slice p12 (dl x3) n12, .slice p16 (dl x4) n16, .slice p20 (dl x5) n20] := by rw [g2.blk _ q2]; exact q4); (have hfb : frz W2 b = (0, 0) := by rw [g2.frz _ q2]; exact q3); (have hpb : Pre (b + 1) W2.heap.size := Nat.le_trans q2 g2.below.size); (have hcr : blk W2 w.heap.size = #[.int .i64 0, .slice none 0 0, .slice none 0 0, .slice none 0 0, .slice none 0 0, .slice none 0 0, .slice none 0 0] := by rw [g2.blk _ d3]; exact d1); (have hfr : frz W2 w.heap.size = (0, 0) := by rw [g2.frz _ d3]; exact d2); (have hpr : Pre (w.heap.size + 1) W2.heap.size := Nat.le_trans d3 g2.below.size); (have hS4 : Sl W2 p4 x0 := S4.gr g2); (have hc2 : W2.cell? ⟨b, 2, none⟩ = some (.slice none 0 0) := by rw [cell_blk, hcb]; rfl); (have hz2 : W2.frozen? ⟨b, 2, none⟩ = false := frozen_frz _ _ _ hfb); (have hset : ∀ v, W2.setCell ⟨b, 2, none⟩ v = setBlk W2 b #[.int .i64 id, .slice p4 (dl x0) n4, v, .slice p8 (dl x2) n8, .slice p12 (dl x3) n12, .slice p16 (dl x4) n16, .slice p20 (dl x5) n20] := fun v => by rw [setCell_setBlk, hcb]; rfl))
      try simp only [hset]
      refine gen_w (fun v => Hid (Gr w v ∧ blk v b = #[.int .i64 id, .slice p4 (dl x0) n4, .slice p2 (dl (x0 - 3)) n2, .slice p8 (dl x2) n8, .slice p12 (dl x3) n12, .slice p16 (dl x4) n16, .slice p20 (dl x5) n20] ∧ frz v b = (0, 0) ∧ Pre (b + 1) v.heap.size ∧ blk v w.heap.size = #[.int .i64 0, .slice none 0 0, .slice none 0 0, .slice none 0 0, .slice none 0 0, .slice none 0 0, .slice none 0 0] ∧ frz v w.heap.size = (0, 0) ∧ Pre (w.heap.size + 1) v.heap.size ∧ Sl v p4 x0 ∧ Sl v p2 (x0 - 3) ∧ Sl v p8 x2 ∧ Sl v p12 x3 ∧ Sl v p16 x4 ∧ Sl v p20 x5)) ?_ ?_
      · refine ⟨?_, ?_, ?_, ?_, ?_, ?_, ?_, ?_, ?_, ?_, ?_, ?_, ?_⟩
        · exact gr_setNew (GA.trans g2) q0
        · rw [blk_setBlk _ _ _ (by rw [hcb]; simp)]
        · rw [frz_setBlk]; exact hfb
        · rw [size_setBlk]; exact hpb
        · rw [blk_other _ _ _ _ nb]; exact hcr
        · rw [frz_setBlk]; exact hfr
        · rw [size_setBlk]; exact hpr
        · exact Sl.set hS4 (by rw [hcb]; exact noU id (p4, dl x0, n4) (none, 0, 0) (p8, dl x2, n8) (p12, dl x3, n12) (p16, dl x4, n16) (p20, dl x5, n20))
        · exact Sl.set S2 (by rw [hcb]; exact noU id (p4, dl x0, n4) (none, 0, 0) (p8, dl x2, n8) (p12, dl x3, n12) (p16, dl x4, n16) (p20, dl x5, n20))
        · exact Sl.set (S8.gr g2) (by rw [hcb]; exact noU id (p4, dl x0, n4) (none, 0, 0) (p8, dl x2, n8) (p12, dl x3, n12) (p16, dl x4, n16) (p20, dl x5, n20))
        · exact Sl.set (S12.gr g2) (by rw [hcb]; exact noU id (p4, dl x0, n4) (none, 0, 0) (p8, dl x2, n8) (p12, dl x3, n12) (p16, dl x4, n16) (p20, dl x5, n20))
        · exact Sl.set (S16.gr g2) (by rw [hcb]; exact noU id (p4, dl x0, n4) (none, 0, 0) (p8, dl x2, n8) (p12, dl x3, n12) (p16, dl x4, n16) (p20, dl x5, n20))
        · exact Sl.set (S20.gr g2) (by rw [hcb]; exact noU id (p4, dl x0, n4) (none, 0, 0) (p8, dl x2, n8) (p12, dl x3, n12) (p16, dl x4, n16) (p20, dl x5, n20))
      intro v0 HV
      obtain ⟨G, k1, k2, k3, k4, k5, k6, k7, k8, k9, k10, k11, k12⟩ := HV.out
      have hst := storeC7 v0 w.heap.size id p4 p8 p12 p16 p20 p2 (dl x0) (dl x2) (dl x3) (dl x4) (dl x5) (dl (x0 - 3)) n4 n8 n12 n16 n20 n2 (by rw [k4]; rfl) k5
      clear HV
      go_wp2_with fail
      refine bodyPost_ret (res_two Try.results10 (rd_cell (c := #[.int .i64 id, .slice p4 (dl x0) n4, .slice p2 (dl (x0 - 3)) n2, .slice p8 (dl x2) n8, .slice p12 (dl x3) n12, .slice p16 (dl x4) n16, .slice p20 (dl x5) n20]) 7 Try.underlying36 rfl (by kernel_rfl) (by rfl) ?_ rfl) (rd_tmp (by rfl))) rfl ⟨six (p4, n4) (p2, n2) (p8, n8) (p12, n12) (p16, n16) (p20, n20), rfl, ?_, ?_⟩
      · simp [go_sem, k4]
      · intro k
        match k with
        | 0 => exact Sl.set k7 (by rw [k4]; exact noU 0 (none, 0, 0) (none, 0, 0) (none, 0, 0) (none, 0, 0) (none, 0, 0) (none, 0, 0))
        | 1 => exact Sl.set k8 (by rw [k4]; exact noU 0 (none, 0, 0) (none, 0, 0) (none, 0, 0) (none, 0, 0) (none, 0, 0) (none, 0, 0))
        | 2 => exact Sl.set k9 (by rw [k4]; exact noU 0 (none, 0, 0) (none, 0, 0) (none, 0, 0) (none, 0, 0) (none, 0, 0) (none, 0, 0))
        | 3 => exact Sl.set k10 (by rw [k4]; exact noU 0 (none, 0, 0) (none, 0, 0) (none, 0, 0) (none, 0, 0) (none, 0, 0) (none, 0, 0))
        | 4 => exact Sl.set k11 (by rw [k4]; exact noU 0 (none, 0, 0) (none, 0, 0) (none, 0, 0) (none, 0, 0) (none, 0, 0) (none, 0, 0))
        | k + 5 => exact Sl.set k12 (by rw [k4]; exact noU 0 (none, 0, 0) (none, 0, 0) (none, 0, 0) (none, 0, 0) (none, 0, 0) (none, 0, 0))
      · exact gr_setNew G (Nat.le_refl _)
    · have H1' : Hid (∀ w, Calls Try.prog 37 #[.string s1] w (Nm x1 w)) := H1
      clear H1
      go_upto_region 8 with (go_at_call 37; refine (H1'.out _).mono ?_; rintro e W2 ⟨p2, n2, rfl, S2, g2⟩; (have hcb : blk W2 b = #[.int .i64 id, .slice p4 (dl x0) n4, .slice none 0 0, .slice p8 (dl x2) n8, .slice p12 (dl x3) n12, .slice p16 (dl x4) n16, .slice p20 (dl x5) n20] := by rw [g2.blk _ q2]; exact q4); (have hfb : frz W2 b = (0, 0) := by rw [g2.frz _ q2]; exact q3); (have hpb : Pre (b + 1) W2.heap.size := Nat.le_trans q2 g2.below.size); (have hcr : blk W2 w.heap.size = #[.int .i64 0, .slice none 0 0, .slice none 0 0, .slice none 0 0, .slice none 0 0, .slice none 0 0, .slice none 0 0] := by rw [g2.blk _ d3]; exact d1); (have hfr : frz W2 w.heap.size = (0, 0) := by rw [g2.frz _ d3]; exact d2); (have hpr : Pre (w.heap.size + 1) W2.heap.size := Nat.le_trans d3 g2.below.size); (have hS4 : Sl W2 p4 x0 := S4.gr g2); (have hc2 : W2.cell? ⟨b, 2, none⟩ = some (.slice none 0 0) := by rw [cell_blk, hcb]; rfl); (have hz2 : W2.frozen? ⟨b, 2, none⟩ = false := frozen_frz _ _ _ hfb); (have hset : ∀ v, W2.setCell ⟨b, 2, none⟩ v = setBlk W2 b #[.int .i64 id, .slice p4 (dl x0) n4, v, .slice p8 (dl x2) n8, .slice p12 (dl x3) n12, .slice p16 (dl x4) n16, .slice p20 (dl x5) n20] := fun v => by rw [setCell_setBlk, hcb]; rfl))
      try simp only [hset]
      refine gen_w (fun v => Hid (Gr w v ∧ blk v b = #[.int .i64 id, .slice p4 (dl x0) n4, .slice p2 (dl x1) n2, .slice p8 (dl x2) n8, .slice p12 (dl x3) n12, .slice p16 (dl x4) n16, .slice p20 (dl x5) n20] ∧ frz v b = (0, 0) ∧ Pre (b + 1) v.heap.size ∧ blk v w.heap.size = #[.int .i64 0, .slice none 0 0, .slice none 0 0, .slice none 0 0, .slice none 0 0, .slice none 0 0, .slice none 0 0] ∧ frz v w.heap.size = (0, 0) ∧ Pre (w.heap.size + 1) v.heap.size ∧ Sl v p4 x0 ∧ Sl v p2 x1 ∧ Sl v p8 x2 ∧ Sl v p12 x3 ∧ Sl v p16 x4 ∧ Sl v p20 x5)) ?_ ?_
      · refine ⟨?_, ?_, ?_, ?_, ?_, ?_, ?_, ?_, ?_, ?_, ?_, ?_, ?_⟩
        · exact gr_setNew (GA.trans g2) q0
        · rw [blk_setBlk _ _ _ (by rw [hcb]; simp)]
        · rw [frz_setBlk]; exact hfb
        · rw [size_setBlk]; exact hpb
        · rw [blk_other _ _ _ _ nb]; exact hcr
        · rw [frz_setBlk]; exact hfr
        · rw [size_setBlk]; exact hpr
        · exact Sl.set hS4 (by rw [hcb]; exact noU id (p4, dl x0, n4) (none, 0, 0) (p8, dl x2, n8) (p12, dl x3, n12) (p16, dl x4, n16) (p20, dl x5, n20))
        · exact Sl.set S2 (by rw [hcb]; exact noU id (p4, dl x0, n4) (none, 0, 0) (p8, dl x2, n8) (p12, dl x3, n12) (p16, dl x4, n16) (p20, dl x5, n20))
        · exact Sl.set (S8.gr g2) (by rw [hcb]; exact noU id (p4, dl x0, n4) (none, 0, 0) (p8, dl x2, n8) (p12, dl x3, n12) (p16, dl x4, n16) (p20, dl x5, n20))
        · exact Sl.set (S12.gr g2) (by rw [hcb]; exact noU id (p4, dl x0, n4) (none, 0, 0) (p8, dl x2, n8) (p12, dl x3, n12) (p16, dl x4, n16) (p20, dl x5, n20))
        · exact Sl.set (S16.gr g2) (by rw [hcb]; exact noU id (p4, dl x0, n4) (none, 0, 0) (p8, dl x2, n8) (p12, dl x3, n12) (p16, dl x4, n16) (p20, dl x5, n20))
        · exact Sl.set (S20.gr g2) (by rw [hcb]; exact noU id (p4, dl x0, n4) (none, 0, 0) (p8, dl x2, n8) (p12, dl x3, n12) (p16, dl x4, n16) (p20, dl x5, n20))
      intro v0 HV
      obtain ⟨G, k1, k2, k3, k4, k5, k6, k7, k8, k9, k10, k11, k12⟩ := HV.out
      have hst := storeC7 v0 w.heap.size id p4 p8 p12 p16 p20 p2 (dl x0) (dl x2) (dl x3) (dl x4) (dl x5) (dl x1) n4 n8 n12 n16 n20 n2 (by rw [k4]; rfl) k5
      clear HV
      go_wp2_with fail
      refine bodyPost_ret (res_two Try.results10 (rd_cell (c := #[.int .i64 id, .slice p4 (dl x0) n4, .slice p2 (dl x1) n2, .slice p8 (dl x2) n8, .slice p12 (dl x3) n12, .slice p16 (dl x4) n16, .slice p20 (dl x5) n20]) 7 Try.underlying36 rfl (by kernel_rfl) (by rfl) ?_ rfl) (rd_tmp (by rfl))) rfl ⟨six (p4, n4) (p2, n2) (p8, n8) (p12, n12) (p16, n16) (p20, n20), rfl, ?_, ?_⟩
      · simp [go_sem, k4]
      · intro k
        match k with
        | 0 => exact Sl.set k7 (by rw [k4]; exact noU 0 (none, 0, 0) (none, 0, 0) (none, 0, 0) (none, 0, 0) (none, 0, 0) (none, 0, 0))
        | 1 => exact Sl.set k8 (by rw [k4]; exact noU 0 (none, 0, 0) (none, 0, 0) (none, 0, 0) (none, 0, 0) (none, 0, 0) (none, 0, 0))
        | 2 => exact Sl.set k9 (by rw [k4]; exact noU 0 (none, 0, 0) (none, 0, 0) (none, 0, 0) (none, 0, 0) (none, 0, 0) (none, 0, 0))
        | 3 => exact Sl.set k10 (by rw [k4]; exact noU 0 (none, 0, 0) (none, 0, 0) (none, 0, 0) (none, 0, 0) (none, 0, 0) (none, 0, 0))
        | 4 => exact Sl.set k11 (by rw [k4]; exact noU 0 (none, 0, 0) (none, 0, 0) (none, 0, 0) (none, 0, 0) (none, 0, 0) (none, 0, 0))
        | k + 5 => exact Sl.set k12 (by rw [k4]; exact noU 0 (none, 0, 0) (none, 0, 0) (none, 0, 0) (none, 0, 0) (none, 0, 0) (none, 0, 0))
      · exact gr_setNew G (Nat.le_refl _)

end Go.Proofs.Ytgmaalokfgdpaaa
namespace Go.Proofs.Ytgmaalokfgdpaaa
open Go.RowKit
theorem hex_of (s : ByteArray) (x : Nat) (h : (Nat.ble s.size 1000 && s.data.toList.all fun c => hexOk c.toNat) = true) (e : hexN s.data.toList = x) (w : World) : Calls Try.prog 37 #[.string s] w (Nm x w) := by
  rw [Bool.and_eq_true] at h
  have := rhex_any s (Nat.le_of_ble_eq_true h.1) (fun c hc => List.all_eq_true.1 h.2 c hc) w
  rw [e] at this
  exact this
/-- Number k of curve i: P, A, B, N, X, Y. -/
def nN (i : Nat) : Nat → Nat := six (pN i) (aN i) (bN i) (oN i) (xN i) (yN i)
/-- A curve's numbers, all known. -/
def GetQ (i : Nat) (w : World) (e : Ending) (w' : World) : Prop := ∃ q, e = .returned (.tuple #[.agg (crA (i : Int) (nN i) q), .bool true]) ∧ (∀ k, Sl w' (q k).1 (nN i k)) ∧ Gr w w'
/-- A curve's row: its id, its P, and five more slices. -/
def GetR (i : Nat) (w : World) (e : Ending) (w' : World) : Prop := ∃ p n q, e = .returned (.tuple #[.agg (cvA (i : Int) p (dl (pN i)) n q), .bool true]) ∧ Sl w' p (pN i) ∧ Gr w w'
theorem GetQ.R {i : Nat} {w w' : World} {e : Ending} (h : GetQ i w e w') : GetR i w e w' := by
  obtain ⟨q, he, hs, hg⟩ := h
  rw [crA_cvA] at he
  exact ⟨_, _, _, he, hs 0, hg⟩
set_option maxRecDepth 100000 in
theorem getq_1 (w : World) : Calls Try.prog 10 #[.int .i64 1] w (GetQ 1 w) :=
  get_of 1 rs1_0 rs1_1 rs1_2 rs1_3 rs1_4 rs1_5 (pN 1) (aN 1) (bN 1) (oN 1) (xN 1) (yN 1) row_1 (hex_of rs1_0 _ (by decide +kernel) (by decide +kernel)) (hex_of rs1_2 _ (by decide +kernel) (by decide +kernel)) (hex_of rs1_3 _ (by decide +kernel) (by decide +kernel)) (hex_of rs1_4 _ (by decide +kernel) (by decide +kernel)) (hex_of rs1_5 _ (by decide +kernel) (by decide +kernel)) (.inl ⟨rfl, by decide +kernel, by decide +kernel, by decide +kernel⟩) w
set_option maxRecDepth 100000 in
theorem getq_2 (w : World) : Calls Try.prog 10 #[.int .i64 2] w (GetQ 2 w) :=
  get_of 2 rs2_0 rs2_1 rs2_2 rs2_3 rs2_4 rs2_5 (pN 2) (aN 2) (bN 2) (oN 2) (xN 2) (yN 2) row_2 (hex_of rs2_0 _ (by decide +kernel) (by decide +kernel)) (hex_of rs2_2 _ (by decide +kernel) (by decide +kernel)) (hex_of rs2_3 _ (by decide +kernel) (by decide +kernel)) (hex_of rs2_4 _ (by decide +kernel) (by decide +kernel)) (hex_of rs2_5 _ (by decide +kernel) (by decide +kernel)) (.inl ⟨rfl, by decide +kernel, by decide +kernel, by decide +kernel⟩) w
set_option maxRecDepth 100000 in
theorem getq_3 (w : World) : Calls Try.prog 10 #[.int .i64 3] w (GetQ 3 w) :=
  get_of 3 rs3_0 rs3_1 rs3_2 rs3_3 rs3_4 rs3_5 (pN 3) (aN 3) (bN 3) (oN 3) (xN 3) (yN 3) row_3 (hex_of rs3_0 _ (by decide +kernel) (by decide +kernel)) (hex_of rs3_2 _ (by decide +kernel) (by decide +kernel)) (hex_of rs3_3 _ (by decide +kernel) (by decide +kernel)) (hex_of rs3_4 _ (by decide +kernel) (by decide +kernel)) (hex_of rs3_5 _ (by decide +kernel) (by decide +kernel)) (.inl ⟨rfl, by decide +kernel, by decide +kernel, by decide +kernel⟩) w
set_option maxRecDepth 100000 in
theorem getq_4 (w : World) : Calls Try.prog 10 #[.int .i64 4] w (GetQ 4 w) :=
  get_of 4 rs4_0 rs4_1 rs4_2 rs4_3 rs4_4 rs4_5 (pN 4) (aN 4) (bN 4) (oN 4) (xN 4) (yN 4) row_4 (hex_of rs4_0 _ (by decide +kernel) (by decide +kernel)) (hex_of rs4_2 _ (by decide +kernel) (by decide +kernel)) (hex_of rs4_3 _ (by decide +kernel) (by decide +kernel)) (hex_of rs4_4 _ (by decide +kernel) (by decide +kernel)) (hex_of rs4_5 _ (by decide +kernel) (by decide +kernel)) (.inl ⟨rfl, by decide +kernel, by decide +kernel, by decide +kernel⟩) w
set_option maxRecDepth 100000 in
theorem getq_5 (w : World) : Calls Try.prog 10 #[.int .i64 5] w (GetQ 5 w) :=
  get_of 5 rs5_0 rs5_1 rs5_2 rs5_3 rs5_4 rs5_5 (pN 5) (aN 5) (bN 5) (oN 5) (xN 5) (yN 5) row_5 (hex_of rs5_0 _ (by decide +kernel) (by decide +kernel)) (hex_of rs5_2 _ (by decide +kernel) (by decide +kernel)) (hex_of rs5_3 _ (by decide +kernel) (by decide +kernel)) (hex_of rs5_4 _ (by decide +kernel) (by decide +kernel)) (hex_of rs5_5 _ (by decide +kernel) (by decide +kernel)) (.inl ⟨rfl, by decide +kernel, by decide +kernel, by decide +kernel⟩) w
set_option maxRecDepth 100000 in
theorem getq_6 (w : World) : Calls Try.prog 10 #[.int .i64 6] w (GetQ 6 w) :=
  get_of 6 rs6_0 rs6_1 rs6_2 rs6_3 rs6_4 rs6_5 (pN 6) (aN 6) (bN 6) (oN 6) (xN 6) (yN 6) row_6 (hex_of rs6_0 _ (by decide +kernel) (by decide +kernel)) (hex_of rs6_2 _ (by decide +kernel) (by decide +kernel)) (hex_of rs6_3 _ (by decide +kernel) (by decide +kernel)) (hex_of rs6_4 _ (by decide +kernel) (by decide +kernel)) (hex_of rs6_5 _ (by decide +kernel) (by decide +kernel)) (.inr ⟨by decide +kernel, hex_of rs6_1 _ (by decide +kernel) (by decide +kernel)⟩) w
set_option maxRecDepth 100000 in
theorem getq_7 (w : World) : Calls Try.prog 10 #[.int .i64 7] w (GetQ 7 w) :=
  get_of 7 rs7_0 rs7_1 rs7_2 rs7_3 rs7_4 rs7_5 (pN 7) (aN 7) (bN 7) (oN 7) (xN 7) (yN 7) row_7 (hex_of rs7_0 _ (by decide +kernel) (by decide +kernel)) (hex_of rs7_2 _ (by decide +kernel) (by decide +kernel)) (hex_of rs7_3 _ (by decide +kernel) (by decide +kernel)) (hex_of rs7_4 _ (by decide +kernel) (by decide +kernel)) (hex_of rs7_5 _ (by decide +kernel) (by decide +kernel)) (.inr ⟨by decide +kernel, hex_of rs7_1 _ (by decide +kernel) (by decide +kernel)⟩) w
set_option maxRecDepth 100000 in
theorem getq_8 (w : World) : Calls Try.prog 10 #[.int .i64 8] w (GetQ 8 w) :=
  get_of 8 rs8_0 rs8_1 rs8_2 rs8_3 rs8_4 rs8_5 (pN 8) (aN 8) (bN 8) (oN 8) (xN 8) (yN 8) row_8 (hex_of rs8_0 _ (by decide +kernel) (by decide +kernel)) (hex_of rs8_2 _ (by decide +kernel) (by decide +kernel)) (hex_of rs8_3 _ (by decide +kernel) (by decide +kernel)) (hex_of rs8_4 _ (by decide +kernel) (by decide +kernel)) (hex_of rs8_5 _ (by decide +kernel) (by decide +kernel)) (.inr ⟨by decide +kernel, hex_of rs8_1 _ (by decide +kernel) (by decide +kernel)⟩) w
set_option maxRecDepth 100000 in
theorem getq_9 (w : World) : Calls Try.prog 10 #[.int .i64 9] w (GetQ 9 w) :=
  get_of 9 rs9_0 rs9_1 rs9_2 rs9_3 rs9_4 rs9_5 (pN 9) (aN 9) (bN 9) (oN 9) (xN 9) (yN 9) row_9 (hex_of rs9_0 _ (by decide +kernel) (by decide +kernel)) (hex_of rs9_2 _ (by decide +kernel) (by decide +kernel)) (hex_of rs9_3 _ (by decide +kernel) (by decide +kernel)) (hex_of rs9_4 _ (by decide +kernel) (by decide +kernel)) (hex_of rs9_5 _ (by decide +kernel) (by decide +kernel)) (.inr ⟨by decide +kernel, hex_of rs9_1 _ (by decide +kernel) (by decide +kernel)⟩) w
set_option maxRecDepth 100000 in
theorem getq_10 (w : World) : Calls Try.prog 10 #[.int .i64 10] w (GetQ 10 w) :=
  get_of 10 rs10_0 rs10_1 rs10_2 rs10_3 rs10_4 rs10_5 (pN 10) (aN 10) (bN 10) (oN 10) (xN 10) (yN 10) row_10 (hex_of rs10_0 _ (by decide +kernel) (by decide +kernel)) (hex_of rs10_2 _ (by decide +kernel) (by decide +kernel)) (hex_of rs10_3 _ (by decide +kernel) (by decide +kernel)) (hex_of rs10_4 _ (by decide +kernel) (by decide +kernel)) (hex_of rs10_5 _ (by decide +kernel) (by decide +kernel)) (.inr ⟨by decide +kernel, hex_of rs10_1 _ (by decide +kernel) (by decide +kernel)⟩) w
set_option maxRecDepth 100000 in
theorem getq_11 (w : World) : Calls Try.prog 10 #[.int .i64 11] w (GetQ 11 w) :=
  get_of 11 rs11_0 rs11_1 rs11_2 rs11_3 rs11_4 rs11_5 (pN 11) (aN 11) (bN 11) (oN 11) (xN 11) (yN 11) row_11 (hex_of rs11_0 _ (by decide +kernel) (by decide +kernel)) (hex_of rs11_2 _ (by decide +kernel) (by decide +kernel)) (hex_of rs11_3 _ (by decide +kernel) (by decide +kernel)) (hex_of rs11_4 _ (by decide +kernel) (by decide +kernel)) (hex_of rs11_5 _ (by decide +kernel) (by decide +kernel)) (.inr ⟨by decide +kernel, hex_of rs11_1 _ (by decide +kernel) (by decide +kernel)⟩) w
set_option maxRecDepth 100000 in
theorem getq_12 (w : World) : Calls Try.prog 10 #[.int .i64 12] w (GetQ 12 w) :=
  get_of 12 rs12_0 rs12_1 rs12_2 rs12_3 rs12_4 rs12_5 (pN 12) (aN 12) (bN 12) (oN 12) (xN 12) (yN 12) row_12 (hex_of rs12_0 _ (by decide +kernel) (by decide +kernel)) (hex_of rs12_2 _ (by decide +kernel) (by decide +kernel)) (hex_of rs12_3 _ (by decide +kernel) (by decide +kernel)) (hex_of rs12_4 _ (by decide +kernel) (by decide +kernel)) (hex_of rs12_5 _ (by decide +kernel) (by decide +kernel)) (.inr ⟨by decide +kernel, hex_of rs12_1 _ (by decide +kernel) (by decide +kernel)⟩) w
set_option maxRecDepth 100000 in
theorem getq_13 (w : World) : Calls Try.prog 10 #[.int .i64 13] w (GetQ 13 w) :=
  get_of 13 rs13_0 rs13_1 rs13_2 rs13_3 rs13_4 rs13_5 (pN 13) (aN 13) (bN 13) (oN 13) (xN 13) (yN 13) row_13 (hex_of rs13_0 _ (by decide +kernel) (by decide +kernel)) (hex_of rs13_2 _ (by decide +kernel) (by decide +kernel)) (hex_of rs13_3 _ (by decide +kernel) (by decide +kernel)) (hex_of rs13_4 _ (by decide +kernel) (by decide +kernel)) (hex_of rs13_5 _ (by decide +kernel) (by decide +kernel)) (.inl ⟨rfl, by decide +kernel, by decide +kernel, by decide +kernel⟩) w
set_option maxRecDepth 100000 in
theorem getq_14 (w : World) : Calls Try.prog 10 #[.int .i64 14] w (GetQ 14 w) :=
  get_of 14 rs14_0 rs14_1 rs14_2 rs14_3 rs14_4 rs14_5 (pN 14) (aN 14) (bN 14) (oN 14) (xN 14) (yN 14) row_14 (hex_of rs14_0 _ (by decide +kernel) (by decide +kernel)) (hex_of rs14_2 _ (by decide +kernel) (by decide +kernel)) (hex_of rs14_3 _ (by decide +kernel) (by decide +kernel)) (hex_of rs14_4 _ (by decide +kernel) (by decide +kernel)) (hex_of rs14_5 _ (by decide +kernel) (by decide +kernel)) (.inr ⟨by decide +kernel, hex_of rs14_1 _ (by decide +kernel) (by decide +kernel)⟩) w
set_option maxRecDepth 100000 in
theorem getq_15 (w : World) : Calls Try.prog 10 #[.int .i64 15] w (GetQ 15 w) :=
  get_of 15 rs15_0 rs15_1 rs15_2 rs15_3 rs15_4 rs15_5 (pN 15) (aN 15) (bN 15) (oN 15) (xN 15) (yN 15) row_15 (hex_of rs15_0 _ (by decide +kernel) (by decide +kernel)) (hex_of rs15_2 _ (by decide +kernel) (by decide +kernel)) (hex_of rs15_3 _ (by decide +kernel) (by decide +kernel)) (hex_of rs15_4 _ (by decide +kernel) (by decide +kernel)) (hex_of rs15_5 _ (by decide +kernel) (by decide +kernel)) (.inr ⟨by decide +kernel, hex_of rs15_1 _ (by decide +kernel) (by decide +kernel)⟩) w
theorem getq_yes (i : Nat) (h1 : 1 ≤ i) (h2 : i ≤ 15) (w : World) : Calls Try.prog 10 #[.int .i64 (i : Int)] w (GetQ i w) := by
  obtain rfl | rfl | rfl | rfl | rfl | rfl | rfl | rfl | rfl | rfl | rfl | rfl | rfl | rfl | rfl : i = 1 ∨ i = 2 ∨ i = 3 ∨ i = 4 ∨ i = 5 ∨ i = 6 ∨ i = 7 ∨ i = 8 ∨ i = 9 ∨ i = 10 ∨ i = 11 ∨ i = 12 ∨ i = 13 ∨ i = 14 ∨ i = 15 := by omega
  · exact getq_1 w
  · exact getq_2 w
  · exact getq_3 w
  · exact getq_4 w
  · exact getq_5 w
  · exact getq_6 w
  · exact getq_7 w
  · exact getq_8 w
  · exact getq_9 w
  · exact getq_10 w
  · exact getq_11 w
  · exact getq_12 w
  · exact getq_13 w
  · exact getq_14 w
  · exact getq_15 w
attribute [local go_sem ↓] loadNat_is loadArr_is loadWide_is loadArrW_is storeNat_is storeWide_is
attribute [local go_sem] loadNat loadArr loadWide loadArrW storeNat storeWide idxArr fold9 fold18 nw_size nw_elem pre_self pre_1 pre_2 pre_3 pre_4 pre_5 pre_6 pre_7 pre_8 pre_9 pre_10 pre_11 pre_12 pre_13 pre_14 pre_15 pre_16 pre_17 pre_18 pre_19 pre_20 pre_21 pre_22 pre_23 pre_24 pre_25 pre_26 pre_27 pre_28 pre_29 pre_30 pre_31 pre_32 pre_33 pre_34 pre_35 pre_36 pre_37 pre_38 pre_39 pre_40 gro_size gro_drew gro_drewN drew_gro drewN_gro gro_gro blk_gro frz_gro blk_drew frz_drew blk_drewN frz_drewN blk_alloc_at frz_alloc_at blk_alloc frz_alloc cell_gro frozen_gro cell_alloc_pre frozen_alloc_pre setCell_drewN alloc_drewN setBlk_drew setBlk_drewN setBlk_alloc_at setBlk_alloc setBlk_gro setCell_gro setCell_alloc_pre size_setBlk size_setCell
attribute [local go_sem ↓] loadC_is storeC_is buildC_is
attribute [local go_sem] eqSl0 loadC storeC0 buildC0 frz_setBlk blk_setBlk setBlk_setBlk
end Go.Proofs.Ytgmaalokfgdpaaa
namespace Go.Proofs.Ytgmaalokfgdpaaa
open Go.RowKit
theorem pN_dl (i : Nat) (h1 : 1 ≤ i) (h2 : i ≤ 15) : dl (pN i) ≤ 18 := by
  have h := pN_bd i h1 h2
  exact (dl_le _ 18).2 (by rw [pq_M]; omega)
theorem dl_M (a : Nat) (ha : a < M) : dl a ≤ 18 := (dl_le _ 18).2 (by rw [pq_M]; exact ha)
def idx (id : Int) : Nat := (IntKind.u64.wrap id).toNat % 15 + 1
theorem idx_bd (id : Int) : 1 ≤ idx id ∧ idx id ≤ 15 := by unfold idx; omega
theorem idx_conv (id : Int) : ∃ u : Nat, IntKind.u64.wrap id = (u : Int) ∧ (u : Int) < 18446744073709551616 ∧ (u : Int) % 15 + 1 = (idx id : Int) := by
  have h : 0 ≤ IntKind.u64.wrap id ∧ IntKind.u64.wrap id < 18446744073709551616 := by rw [IntKind.wrap_u64]; omega
  refine ⟨(IntKind.u64.wrap id).toNat, ?_, ?_, ?_⟩
  · omega
  · omega
  · unfold idx; omega

end Go.Proofs.Ytgmaalokfgdpaaa
namespace Go.Proofs.Ytgmaalokfgdpaaa.EC
/-- Inverses by Fermat's rule. -/
def iP (p : Nat) [NeZero p] (d : Fin p) : Fin p := Fin.ofNat p (d.val ^ (p - 2))
theorem iP_is {p : Nat} [NeZero p] (h : Prm p) (d : Fin p) (hd : d ≠ 0) : iP p d * d = 1 := by
  have h2 := h.1
  have hv : d.val ≠ 0 := fun e => hd (Fin.ext (e.trans (Fin.val_zero p).symm))
  have nd : ¬ p ∣ d.val := fun e => by
    have := Nat.le_of_dvd (by omega) e
    have := d.isLt
    omega
  apply Fin.ext
  rw [Fin.val_mul]
  show d.val ^ (p - 2) % p * d.val % p = 1 % p
  rw [Nat.mod_mul_mod, ← Nat.pow_succ, show (p - 2).succ = p - 1 by omega, h.fermat nd, Nat.mod_eq_of_lt (by omega)]
theorem cur_of (p a b : Nat) [NeZero p] (hp : Prm p) (h2 : 2 < p) (ha : a < p) (hb : b < p) (hdis : (4 * (a * a % p * a % p) % p + 27 * (b * b % p) % p) % p ≠ 0) : Cur (iP p) ⟨a, ha⟩ ⟨b, hb⟩ := by
  refine ⟨hp, fun e => ?_, fun e => hdis ?_, fun d hd => iP_is hp d hd⟩
  · have e' : 2 % p = 0 % p := congrArg Fin.val e
    rw [Nat.mod_eq_of_lt h2, Nat.zero_mod] at e'
    cases e'
  · have e' := congrArg Fin.val e
    rw [Fin.val_add, Fin.val_mul, Fin.val_mul, Fin.val_mul, Fin.val_mul, Fin.val_mul] at e'
    have f4 : (4 : Fin p).val = 4 % p := rfl
    have f27 : (27 : Fin p).val = 27 % p := rfl
    have f0 : (0 : Fin p).val = 0 := Fin.val_zero p
    have g4 : ∀ y, 4 % p * y % p = 4 * y % p := fun y => by rw [Nat.mod_mul_mod]
    have g27 : ∀ y, 27 % p * y % p = 27 * y % p := fun y => by rw [Nat.mod_mul_mod]
    rw [f4, f27, f0, g4, g27] at e'
    exact e'
theorem nzP (i : Nat) (h1 : 1 ≤ i) (h2 : i ≤ 15) : NeZero (pN i) := ⟨by have := pN_bd i h1 h2; omega⟩
theorem disN (i : Nat) (h1 : 1 ≤ i) (h2 : i ≤ 15) : 2 < pN i ∧ (4 * (aN i * aN i % pN i * aN i % pN i) % pN i + 27 * (bN i * bN i % pN i) % pN i) % pN i ≠ 0 := by
  obtain rfl | rfl | rfl | rfl | rfl | rfl | rfl | rfl | rfl | rfl | rfl | rfl | rfl | rfl | rfl : i = 1 ∨ i = 2 ∨ i = 3 ∨ i = 4 ∨ i = 5 ∨ i = 6 ∨ i = 7 ∨ i = 8 ∨ i = 9 ∨ i = 10 ∨ i = 11 ∨ i = 12 ∨ i = 13 ∨ i = 14 ∨ i = 15 := by omega
  all_goals decide +kernel
section
variable (i : Nat) (h1 : 1 ≤ i) (h2 : i ≤ 15)
def aF : Fin (pN i) := ⟨aN i, aN_lt i h1 h2⟩
def bF : Fin (pN i) := ⟨bN i, bN_lt i h1 h2⟩
def xF : Fin (pN i) := ⟨xN i, xN_lt i h1 h2⟩
def yF : Fin (pN i) := ⟨yN i, (yN_lt i h1 h2).1⟩
variable [NeZero (pN i)]
theorem curN : Cur (iP (pN i)) (aF i h1 h2) (bF i h1 h2) := cur_of _ _ _ (prm_pN i h1 h2) (disN i h1 h2).1 _ _ (disN i h1 h2).2
theorem onG : OnC (aF i h1 h2) (bF i h1 h2) (xF i h1 h2) (yF i h1 h2) := by
  have h := gN_on i h1 h2
  simp only [onB, Bool.false_eq_true, if_false, Bool.and_eq_true, decide_eq_true_eq] at h
  have e : yF i h1 h2 * yF i h1 h2 = (xF i h1 h2 * xF i h1 h2 + aF i h1 h2) * xF i h1 h2 + bF i h1 h2 := Fin.ext h.2.2
  unfold OnC
  rw [e]
  clear e h
  grobner
end
/-- N - 1 times the base point is its opposite. -/
theorem ml_pred_G (i : Nat) (h1 : 1 ≤ i) (h2 : i ≤ 15) [NeZero (pN i)] : ml (iP (pN i)) (aF i h1 h2) (oN i - 1) (some (xF i h1 h2, yF i h1 h2)) = ng (some (xF i h1 h2, yF i h1 h2)) := by
  have C := curN i h1 h2
  have hG := onG i h1 h2
  obtain rfl | rfl | rfl | rfl | rfl | rfl | rfl | rfl | rfl | rfl | rfl | rfl | rfl | rfl | rfl : i = 1 ∨ i = 2 ∨ i = 3 ∨ i = 4 ∨ i = 5 ∨ i = 6 ∨ i = 7 ∨ i = 8 ∨ i = 9 ∨ i = 10 ∨ i = 11 ∨ i = 12 ∨ i = 13 ∨ i = 14 ∨ i = 15 := by omega
  · exact ml_opp C hG _ 191 top_1 run_1
  · exact ml_opp C hG _ 223 top_2 run_2
  · exact ml_opp C hG _ 255 top_3 run_3
  · exact ml_opp C hG _ 383 top_4 run_4
  · exact ml_opp C hG _ 520 top_5 run_5
  · exact ml_opp C hG _ 255 top_6 run_6
  · exact ml_opp C hG _ 159 top_7 run_7
  · exact ml_opp C hG _ 223 top_8 run_8
  · exact ml_opp C hG _ 255 top_9 run_9
  · exact ml_opp C hG _ 319 top_10 run_10
  · exact ml_opp C hG _ 383 top_11 run_11
  · exact ml_opp C hG _ 511 top_12 run_12
  · exact ml_opp C hG _ 7 top_13 run_13
  · exact ml_opp C hG _ 7 top_14 run_14
  · exact ml_opp C hG _ 7 top_15 run_15
theorem oN_pos (i : Nat) (h1 : 1 ≤ i) (h2 : i ≤ 15) : 2 < oN i := by
  obtain rfl | rfl | rfl | rfl | rfl | rfl | rfl | rfl | rfl | rfl | rfl | rfl | rfl | rfl | rfl : i = 1 ∨ i = 2 ∨ i = 3 ∨ i = 4 ∨ i = 5 ∨ i = 6 ∨ i = 7 ∨ i = 8 ∨ i = 9 ∨ i = 10 ∨ i = 11 ∨ i = 12 ∨ i = 13 ∨ i = 14 ∨ i = 15 := by omega
  all_goals decide +kernel
/-- N times the base point is infinity. -/
theorem ml_G (i : Nat) (h1 : 1 ≤ i) (h2 : i ≤ 15) [NeZero (pN i)] : ml (iP (pN i)) (aF i h1 h2) (oN i) (some (xF i h1 h2, yF i h1 h2)) = none := by
  have h := oN_pos i h1 h2
  obtain ⟨n, hn⟩ : ∃ n, oN i = n + 1 := ⟨oN i - 1, by omega⟩
  have e := ml_pred_G i h1 h2
  rw [hn] at e ⊢
  show pl _ _ (ml _ _ n _) _ = none
  rw [show n + 1 - 1 = n from rfl] at e
  rw [e]
  have C := curN i h1 h2
  have := pl_ng C (ng (some (xF i h1 h2, yF i h1 h2)))
  rw [ng_ng] at this
  exact this

end Go.Proofs.Ytgmaalokfgdpaaa.EC
